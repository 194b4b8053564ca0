import PyProof.Rows.All
import Wide.All
import OpenK.AllK
import Wide.FinOn
import Lean
import PyProof.EqAt
import PyProof.EqKinds
import PyProof.TupleCall
import PyProof.ReprRoads
import PyProof.ReprBulk
import PyProof.EnumMake
import PyProof.EnumFor
import KE.KRevSl
import KE.KDictList
import PyProof.ZipIter
import PyProof.AttrMissHeap
import KE.KDictOf
import KE.KItemsList
import PyProof.Rows.ZipGen
import PyProof.CallFns
import PyProof.NsDelKeeps
import PyProof.StrWalks
import PyProof.FString5
import KE.KSortTup
import PyProof.SetRoads
import PyProof.SetNew
import PyProof.Rows.SetFrom
import PyProof.WalksMore
import PyProof.ForAny
import PyProof.DictWalks
import PyProof.P3Eq
import KE.KRevIter
import PyProof.MeetsDict
import PySem.Challenge.RW_parentlines_k27_changed_and_back
set_option Elab.async false
set_option linter.all false
set_option maxRecDepth 100000
set_option maxHeartbeats 4000000
def af:=@PySem.wpAny_bind
def aq:=@if_neg
def aA:=@if_pos
def aB:=@PySem.wpAny_pure
def aE:=@List.length_map
def aI:=@PySem.sizeLine_eq
def aN:=@Nat.le_refl
def aO:=@Ne.symm
def aU:=@PySem.Heap.lt_size
def a4:=@Nat.zero_le
def a6:=@PySem.W.mg_of
def ba:=@List.mem_cons_self
def bf:=@List.mem_map
def bh:=@Nat.ne_of_lt
def bj:=@PySem.Heap.get?_push_of_some
def bq:=@List.mem_cons
def br:=@List.getElem?_eq_getElem
def bU:=@List.mem_cons_of_mem
def bV:=@List.map_append
def b9:=@List.getElem?_eq_some_iff
def cD:=@List.map_cons
def cK:=@Nat.le_trans
def cL:=@List.size_toArray
def cS:=@beq_iff_eq
def cU:=@Bool.false_ne_true
def c9:=@List.length_append
def dj:=@PySem.Heap.get?_push_size
def dk:=@List.mem_append
def dq:=@List.length_take
def dz:=@List.take_succ
def dX:=@PySem.wpAny_holding
def dZ:=@List.length_cons
def d4:=@List.getD_eq_getElem?_getD
def d5:=@List.take_length
def eN:=@List.mem_singleton
def eT:=@congrArg
def eU:=@List.mem_append_right
def eV:=@List.append_nil
def fZ:=@Nat.lt_of_lt_of_le
def f6:=@List.getElem?_map
def gF:=@Option.some.inj
def gO:=@decide_eq_true
def gP:=@List.length_filter_le
def hV:=@List.mem_filter
def hW:=@PySem.boot_len
def hZ:=@PySem.W.mg_none_of
def ix:=@List.nodup_cons
def iy:=@List.lookup_cons
def iz:=@Bool.and_eq_true_iff
def iA:=@PySem.wpAny_field
def iS:=@Option.map_eq_some_iff
def iT:=@List.getElem_mem
def je:=@decide_eq_false
def jf:=@List.mem_append_left
def jg:=@PySem.Heap.get?_update_other
def jh:=@PySem.codeAny_builtin
def ji:=@List.filter_append
def jM:=@PySem.PassesOwn.never
def j8:=@List.mem_of_getElem?
def j9:=@List.length_singleton
def ll:=@PySem.Paired.length
def lq:=@PySem.wpAny_truthy_bool
def lr:=@List.nodup_append
def lu:=@PySem.F.plainAttrs_list
def l8:=@List.mem_range
def md:=@PySem.wpAny_mono
def mf:=@PySem.W.kia_one
def mh:=@PySem.Around.under_plainId
def mi:=@Array.getD_eq_getD_getElem?
def nI:=@beq_eq_false_iff_ne
def nJ:=@PySem.wpAny_standAt
def nK:=@PySem.wpAny_rule
def nL:=@PySem.wpAny_call
def nM:=@PySem.mem_of_lookup
def nN:=@Nat.le_succ
def nO:=@List.map_map
def nP:=@Nat.lt_of_le_of_lt
def nQ:=@Nat.add_le_add_left
def pF:=@Nat.lt_irrefl
def pG:=@List.mem_filterMap
def pH:=@PySem.codeAny_mono
def pI:=@PySem.wpAny_Call_Name_kw
def pJ:=@PySem.Heap.get?_update_self
def pK:=@if_true
def pM:=@List.all_eq_true
def pN:=@List.any_eq_true
def pO:=@PySem.F.slot_list_append
def pP:=@PySem.F.type_list_append
def pQ:=@List.filter_cons_of_pos
def rD:=@Bool.eq_iff_iff
def rE:=@List.any_cons
def rF:=@PySem.plainId_quiet
def rG:=@List.nodup_nil
def rH:=@PySem.F.called_set
def rJ:=@List.not_mem_nil
def rK:=@or_false
def rL:=@List.filter_cons_of_neg
def uQ:=@PySem.Heap.get?_none_of_le
def uR:=@Array.length_toList
def uS:=@PySem.wpAny_passesOwn
def uT:=@Nat.ne_of_gt
def uU:=@if_false
def uV:=@List.append_assoc
def uW:=@Nat.lt_trans
def uX:=@PySem.wpAny_setField
def uY:=@List.Perm.refl
def uZ:=@of_decide_eq_true
def xY:=@Sum.inr.inj
def xZ:=@Nat.le_of_lt
def x4:=@PySem.wpAny_execs_nil
def x5:=@Bool.and_eq_true
def x6:=@PySem.Heap.size_push
def x8:=@PySem.wpAny_typeOf
def x9:=@PySem.W.any_some
def ya:=@PySem.wpAny_loadPart
def yb:=@List.length_nil
def yc:=@List.find?_cons
def yd:=@PySem.wpAny_throw
def ye:=@PySem.Heap.UpToSlots.trans
def yf:=@PySem.wpAny_newList
def yg:=@PySem.wpAny_call_entry
def yh:=@Nat.le_add_right
def AA:=@Option.map_some
def AB:=@PySem.wpAny_newObj_type
def AD:=@PySem.wpAny_pyIter_list
def AE:=@PyProof.Rows.callWith_type1
def AF:=@PySem.seqIndex_of
def AG:=@Bool.false_eq_true
def AH:=@PySem.wpAny_loadPart_at
def AI:=@PySem.F.store_object
def AJ:=@PySem.W.looks_mroIn
def AK:=@PySem.W.callWith_K
def AL:=@Array.getElem?_eq_some_iff
def AM:=@List.any_map
def AN:=@List.drop_eq_getElem_cons
def AO:=@List.getElem_of_mem
def AQ:=@PySem.W.hideAll_none
def AR:=@List.getElem?_eq_none
def AS:=@PySem.wpAny_runValue
def AU:=@Nat.not_lt_zero
def AV:=@List.getElem?_inj
def AW:=@List.map_congr_left
def AX:=@List.pairwise_map
def AY:=@Int.emod_nonneg
def AZ:=@Int.emod_lt_of_pos
def A0:=@Int.eq_ofNat_of_zero_le
def A1:=@PySem.SeqAt.eqv_refl
def JH:=@List.of_mem_zip
def JI:=@List.length_replicate
def JJ:=@Int.toNat_natCast
def JK:=@List.reverse_cons
def JL:=@PySem.call_meets
def JM:=@PySem.Code.quiet_builtin
def JN:=@PySem.codeAny_call_builtin
def JO:=@PySem.wpAny_attempt
def JP:=@Option.bind_some
def JQ:=@PySem.W.Looks.here
def JR:=@PySem.F.excBase_ValueError
def JS:=@PySem.wpAny_getItem_str_slice
def JT:=@PySem.post_val_or_str
def JU:=@Array.toList_inj
def JV:=@Array.size_append
def JW:=@PySem.F.plain_any_loop
def JX:=@List.length_reverse
def JY:=@PySem.tupleKind_room_in1
def JZ:=@PySem.wpAny_seqItems
def J0:=@PySem.Heap.SameBut.update
def J1:=@Nat.lt_succ_of_lt
def J8:=@List.mem_iff_getElem
def J':=@Array.getElem?_eq_getElem
def Ka:=@PySem.F.plain_list_iadd
def Kb:=@List.sum_cons
def Kc:=@List.drop_length
def Kd:=@List.mem_of_mem_drop
def Ke:=@PySem.PassesOwn.leaving
def Kf:=@List.eq_nil_of_length_eq_zero
def SY:=@PySem.Value.isStrOf_shape
def S':=@PySem.wpAny_eqBool_str
def Ta:=@List.filterMap_cons
def Tb:=@List.getElem?_set_self
def Tc:=@List.getElem?_set_ne
def Td:=@PySem.wpAny_execs_cons
def Te:=@PyProof.Rows.assignInOrder_cons
def Tf:=@List.any_eq_false
def Tg:=@PySem.W.cellsFrom_some
def Th:=@List.take_sublist
def Tj:=@PySem.noFill_tuple_add
def Tn:=@PySem.seq_tuple_add
def To:=@PySem.F.slot_tuple_add
def Tp:=@PySem.F.entry_tuple_add
def Tq:=@PySem.F.args_tuple_add_2
def Tr:=@PySem.evalPart_none
def Ts:=@List.length_drop
def Tt:=@PySem.slot_list_getitem
def Tu:=@List.map_nil
def Tv:=@List.lookup_append
def Tw:=@PySem.wpAny_noRaise
def Tx:=@PySem.wpAny_comprehension_free
def Tz:=@PySem.codeAny_of_tree
def TB:=@List.length_range
def TF:=@List.length_filterMap_le
def TH:=@List.length_pos_of_mem
def TJ:=@Bool.false_or
def TK:=@Nat.not_lt
def TL:=@List.drop_of_length_le
def TM:=@Option.isSome_map
def TQ:=@PySem.Obj.data_mapFields
def TR:=@PySem.F.slot_tuple_getattribute
def TV:=@List.ext_getElem
def TY:=@PySem.Calls.call_function_entry
def T3:=@PyProof.Rows.F.plain_set_update_loop
def T4:=@PySem.ReadAtMost.cons
def T6:=@PySem.wpAny_callSpecial?_slot
def T7:=@List.take_of_length_le
def T8:=@Bool.and_true
def T9:=@List.map_drop
def T':=@List.mem_reverse
def Ua:=@List.map_reverse
def Ub:=@List.filter_eq_self
def Uc:=@List.mem_of_head?
def Ud:=@List.mem_of_mem_take
def Ue:=@List.filter_cons
def Ug:=@List.replicate_succ'
def Uh:=@List.Nodup.sublist
def Ui:=@List.filter_sublist
def Uj:=@Classical.byContradiction
def Uk:=@List.getElem_take
def aky:=@PySem.Calls.Name_function_global
def akF:=@Option.isSome_iff_exists
def akG:=@List.getElem?_append_right
def akH:=@List.getElem?_append_left
def akK:=@PySem.wpAny_newFunctionEnv_cells
def akL:=@PyProof.Rows.callWith_builtin1
def akP:=@Array.getElem?_toList
def akU:=@PySem.F.attrBase_ValueError
def akX:=@PySem.plainObj_wpAny_Assign_Attribute
def akY:=@List.length_erase_of_mem
def akZ:=@List.mem_erase_of_ne
def ak0:=@List.getElem_toArray
def ak1:=@Array.toArray_toList
def ak3:=@PySem.codeAny_handlers_suite_as
def ak5:=@List.take_append_drop
def ak6:=@Array.mem_of_getElem?
def ak7:=@Array.perm_iff_toList_perm
def alb:=@Nat.lt_of_succ_lt_succ
def alc:=@List.pairwise_singleton
def ald:=@PySem.F.entry_proto_collect
def ale:=@PySem.F.plain_proto_collect
def alf:=@PySem.F.entry_list_iadd
def ali:=@Classical.choose_spec
def alj:=@List.nodup_iff_pairwise_ne
def alk:=@List.getElem?_zip_eq_some
def aln:=@List.length_pos_iff
def als:=@List.countP_eq_length_filter
def alu:=@PySem.F.slot_list_pop
def alv:=@PySem.F.type_list_pop
def alw:=@List.Perm.append_left
def alx:=@List.take_append_of_le_length
def aly:=@List.length_dropLast
def alz:=@List.perm_ext_iff_of_nodup
def alA:=@List.cons_lt_cons_iff
namespace L2
open PySem PySem.Spec PyProof.Rows
abbrev Key:=Sum Int Str
def sP:Key->Value->Bool
 | .inl k,v=>Value.isInt k v
 | .inr x,v=>Value.isStrOf x v
def ZY (w:World):Key->Int
 | .inl k=>hashInt k
 | .inr x=>hashStr w x
theorem mj:∀ {k:Key}{v:Value},sP k v=true->(∃i t,k=Sum.inl i/\v=Value.int i t)\/(∃x t,k=Sum.inr x/\v=Value.str x t)
 | .inl i,v,h=>by
  obtain⟨t,e⟩:=Value.isInt_shape (k:=i) (v:=v) h
  exact .inl ⟨i,t,rfl,e⟩
 | .inr x,v,h=>by
  obtain⟨t,e⟩:=SY (x:=x) (v:=v) h
  exact .inr ⟨x,t,rfl,e⟩
theorem Vn (i:Int) (t:Tok):sP (.inl i) (.int i t)=true:=by simp[sP,Value.isInt]
theorem Vo (x:Str) (t:Tok):sP (.inr x) (.str x t)=true:=by simp[sP,Value.isStrOf]
theorem X7 (a b:Int):decide ((Sum.inl a:Key)=Sum.inl b)=(a==b):=by
 by_cases e:a=b
 ·subst e;simp
 ·have h : ¬ (Sum.inl a:Key)=Sum.inl b:=fun q=>e (Sum.inl.inj q)
  rw[je h]
  exact(nI.mpr e).symm
theorem X8 (a b:Str):decide ((Sum.inr a:Key)=Sum.inr b)=decide (a=b):=by
 by_cases e:a=b
 ·subst e;simp
 ·have h : ¬ (Sum.inr a:Key)=Sum.inr b:=fun q=>e (xY q)
  rw[je h,je e]
theorem X9 (a:Int) (b:Str):decide ((Sum.inl a:Key)=Sum.inr b)=false:=je (fun q=>nomatch q)
theorem X' (a:Str) (b:Int):decide ((Sum.inr a:Key)=Sum.inl b)=false:=je (fun q=>nomatch q)
def du (prog:Program) (w:World):PySem.KeyKind prog w Key where
 is:=sP
 hash:=ZY w
 inj:=fun v a b ha hb=>by
  rcases mj ha with⟨i,t,rfl,rfl⟩|⟨x,t,rfl,rfl⟩
  ·rcases mj hb with⟨j,u,rfl,e⟩|⟨y,u,rfl,e⟩
   ·injection e with e1 _;rw[e1]
   ·exact nomatch e
  ·rcases mj hb with⟨j,u,rfl,e⟩|⟨y,u,rfl,e⟩
   ·exact nomatch e
   ·injection e with e1 _;rw[e1]
 byValue:=fun k v h=>by
  rcases mj h with⟨i,t,rfl,rfl⟩|⟨x,t,rfl,rfl⟩ <;> rfl
 pyHash:=fun hv h=>by
  rcases mj hv with⟨i,t,rfl,rfl⟩|⟨x,t,rfl,rfl⟩
  ·exact wpAny_pyHash_int h
  ·exact wpAny_pyHash_str h
 eqBool:=fun hu hv h=>by
  rcases mj hu with⟨i,t,rfl,rfl⟩|⟨x,t,rfl,rfl⟩
  ·rcases mj hv with⟨j,u,rfl,rfl⟩|⟨y,u,rfl,rfl⟩
   ·rw[X7]at h;exact wpAny_eqBool_int h
   ·rw[X9]at h;exact SeqAt.EqAt.int_str i t y u _ _ _ _ h
  ·rcases mj hv with⟨j,u,rfl,rfl⟩|⟨y,u,rfl,rfl⟩
   ·rw[X']at h;exact SeqAt.EqAt.str_int x t j u _ _ _ _ h
   ·rw[X8]at h;exact S' h
 «strs» :=fun k x t v h=>by
  rcases mj h with⟨i,u,rfl,e⟩|⟨y,u,rfl,e⟩
  ·exact nomatch e
  ·injection e with e1 _
   subst e1
   cases v <;> rfl
theorem UD (prog:Program) (w:World) (i:Int) (t:Tok):(du prog w).is (.inl i) (.int i t)=true:=Vn i t
theorem UE (prog:Program) (w:World) (x:Str) (t:Tok):(du prog w).is (.inr x) (.str x t)=true:=Vo x t
end L2
namespace L2
open PySem PySem.Spec PyProof.Rows
inductive V where
 | aD | bl (b:Bool)|int (i:Int)|str (x:Str)|i7 (b:Array UInt8)|i8 (b:UInt64)|ref (a:Addr)|ty (n:String)
 deriving DecidableEq
def RelV:V->Value->Prop
 | .aD,u=>u=Value.none
 | .bl b,u=>u=Value.bool b
 | .int i,u=>∃t,u=Value.int i t
 | .str x,u=>∃t,u=Value.str x t
 | .i7 b,u=>∃t,u=Value.bytes b t
 | .i8 b,u=>∃t,u=Value.float b t
 | .ref a,u=>u=Value.ref a
 | .ty n,u=>u=Value.type n
abbrev Vals:List V->List Value->Prop:=Paired RelV
theorem Vals.length {xs:List V}{us:List Value} (r:Vals xs us):xs.length=us.length:=ll r
theorem Vals.get:∀ {xs:List V}{us:List Value}{i:Nat}{x:V},Vals xs us->xs[i]? = some x -> ∃u,us[i]? = some u/\RelV x u
 | _,_,_,_,.nil,e=>by simp at e
 | _,_,0,_,.cons r _,e=>by simp at e;subst e;exact⟨_,rfl,r⟩
 | _,_,i+1,x,.cons _ t,e=>by
  obtain⟨u,h1,h2⟩:=Vals.get (i:=i) (x:=x) t (by simpa using e)
  exact⟨u,by simpa using h1,h2⟩
theorem Vals.set {x:V}{u:Value} (r:RelV x u):∀ {xs:List V}{us:List Value} (i:Nat),Vals xs us->Vals (xs.set i x) (us.set i u)
 | _,_,_,.nil=>.nil
 | _,_,0,.cons _ t=>.cons r t
 | _,_,i+1,.cons q t=>.cons q (Vals.set r i t)
theorem Vals.append:∀ {xs ys:List V}{us ws:List Value},Vals xs us->Vals ys ws->Vals (xs++ys) (us++ws)
 | _,_,_,_,.nil,s=>s
 | _,_,_,_,.cons r t,s=>.cons r (Vals.append t s)
theorem Vals.take:∀ {xs:List V}{us:List Value} (n:Nat),Vals xs us->Vals (xs.take n) (us.take n)
 | _,_,0,_=>.nil
 | _,_,_+1,.nil=>.nil
 | _,_,n+1,.cons r t=>.cons r (Vals.take n t)
theorem Vals.drop:∀ {xs:List V}{us:List Value} (n:Nat),Vals xs us->Vals (xs.drop n) (us.drop n)
 | _,_,0,r=>r
 | _,_,_+1,.nil=>.nil
 | _,_,n+1,.cons _ t=>Vals.drop n t
def gV:Option V->Option Value->Prop
 | some v,some u=>RelV v u
 | none,none=>True
 | _,_=>False
def KV {κ:Type}:List (κ×V)->List (κ×Value)->Prop:=Paired fun(p:κ×V) (q:κ×Value)=>p.1=q.1/\RelV p.2 q.2
def kV:Key->V
 | .inl i=>.int i
 | .inr x=>.str x
inductive HO where
 | lst (xs:List V)
 | tup (xs:List V)
 | dK (kvs:List (Key×V))|dT (kvs:List (List Key×V))
 | set (S:Int->Bool) (n:Nat)
 | ins (C dx:Addr) (fs:List (Str×V))
 | own (x:Addr)
 | xd (fs:List (Str×V))
 | met (f x:Addr)
 | wH (lo hi:Int)
 | ip (o:Obj) (u:HO)
 | m8 (ps:Array Value)
 | ext (φ:Heap->Prop)
abbrev Hp:=Addr->Option HO
def upd (H:Hp) (a:Addr) (o:HO):Hp:=fun b=>if b=a then some o else H b
theorem ag {H:Hp}{a:Addr}{o:HO}:upd H a o a=some o:=by unfold upd;rw[aA rfl]
theorem ah {H:Hp}{a b:Addr}{o:HO} (h:b≠a):upd H a o b=H b:=by unfold upd;rw[aq h]
theorem jo {H:Hp}{a:Addr}{o u:HO}:upd (upd H a o) a u=upd H a u:=by
 funext b;unfold upd;split <;> rfl
theorem b7 {H:Hp}{a b:Addr}{o u:HO} (h:H a=some o) (h':H b=some u) (d:o≠u):a≠b:=by
 intro e;subst e;rw[h]at h';exact d (gF h')
theorem ao {H:Hp}{a b:Addr}{o:HO} (h:H a=some o) (h':H b=none):a≠b:=by
 intro e;subst e;rw[h]at h';cases h'
def qo (h:Heap) (a:Addr) (items:Array Value):Prop:= ∃o,h.get? a=some o/\o.cls = .type "tuple" /\ ∃n,o.data = .seq items n/\o.dict=none
theorem qo.is {h:Heap}{a:Addr}{items:Array Value} (x:qo h a items):IsTup h a items:=let ⟨o,e,c,n,d,_⟩:=x;⟨o,e,c,n,d⟩
theorem qo.new (h:Heap) (items:Array Value):qo (h.push { cls:= .type "tuple", data:= .seq items }) h.objs.size items:=⟨_,dj _ rfl,rfl,_,rfl,rfl⟩
section
variable (P : Program) (w : World)
def bt (H:Hp) (h:Heap) (a:Addr):HO->Prop
 | .lst xs=>xs.length<=sizeLine /\ ∃ (its:List Value) (n:Nat),Vals xs its/\h.get? a=some { cls:= .type "list", data:= .seq its.toArray n }
 | .tup xs=>xs.length<=sizeLine /\ ∃its:List Value,Vals xs its/\qo h a its.toArray
 | .dK kvs=>kvs.length<=sizeLine/\(a==sysModules)=false /\ ∃vs,KV kvs vs/\h.DictOf (du P w) a vs
 | .dT kvs=>kvs.length<=sizeLine/\(a==sysModules)=false /\ ∃xs:List (List Key×Addr×Value),
   Paired (fun(p:List Key×V) (q:List Key×Addr×Value)=>p.1=q.1/\H q.2.1=some (.tup (p.1.map kV))/\RelV p.2 q.2.2) kvs xs /\
   ∃o es ep,h.get? a=some o/\o.ExactDict/\o.data = .dict es ep/\es.toList=xs.map (entryOfKey (tupleKind (du P w)))/\(xs.map (·.1)).Nodup
 | .set S n=>h.SetOf (intKind P w) a S n
 | .ins C dx fs=>H dx=some (.own a)/\fs.length<=1000/\dx≠a/\h.get? a=some (PySem.W.instObj C dx) /\
   ∃mA,h.Ns1 dx mA/\(∀f,gV (fs.lookup f) (mA f))/\PySem.Within mA (fs.map (·.1))
 | .own _=>∃o,h.get? a=some o
 | .xd fs=>∃mA,h.Ns1 a mA /\ ∀f,gV (fs.lookup f) (mA f)
 | .wH lo hi=>∃t u v,h.get? a=some { cls:= .type "range", data:= .fields #[.int lo t,.int hi u,.int 1 v] }
 | .ip o u=>h.get? a=some o/\bt H h a u
 | .m8 ps=>h.get? a=some { cls:= .none,data:= .fields ps }
 | .met f x=>h.get? a=some (PySem.W.methodObj (.ref f) (.ref x))
 | .ext φ=>φ h/\(∃o,h.get? a=some o) /\ ∀h1 h2:Heap,φ h1->(∀o,h1.get? a=some o->h2.get? a=some o)->φ h2
def cq (H:Hp) (h:Heap):Prop:= ∀a o,H a=some o->bt P w H h a o
end
section
variable {P : Program} {w : World} {H H' : Hp} {h h' : Heap} {a : Addr} {o : HO}
theorem bt.lt (x:bt P w H h a o):a < h.objs.size:=by
 cases o with
 | lst xs=>obtain⟨_,_,_,_,e⟩:=x;exact aU e
 | tup xs=>obtain⟨_,_,_,p⟩:=x;exact p.is.lt
 | dK kvs=>obtain⟨_,_,_,_,o,_,_,e,_⟩:=x;exact aU e
 | dT kvs=>obtain⟨_,_,_,_,o,_,_,e,_⟩:=x;exact aU e
 | set S n=>obtain⟨o,_,_,_,e,_⟩:=x;exact aU e
 | ins C dx fs=>obtain⟨_,_,_,e,_⟩:=x;exact aU e
 | own y=>obtain⟨_,e⟩:=x;exact aU e
 | xd fs=>obtain⟨_,⟨_,_,_,e,_⟩,_⟩:=x;exact aU e
 | wH lo hi=>obtain⟨_,_,_,e⟩:=x;exact aU e
 | ip ob u=>obtain⟨e,_⟩:=x;exact aU e
 | m8 ps=>exact aU (show h.get? a=some _ from x)
 | met f y=>exact aU (show h.get? a=some _ from x)
 | ext φ=>obtain⟨_,⟨_,e⟩,_⟩:=x;exact aU e
theorem Paired.yZ {α β:Type}{F G:α->β->Prop}:∀ {l₁:List α}{vV:List β},Paired F l₁ vV->(∀a b,F a b->G a b)->Paired G l₁ vV
 | _,_,.nil,_=>.nil
 | _,_,.cons r t,f=>.cons (f _ _ r) (Paired.yZ t f)
theorem Paired.imp' {α β:Type}{F G:α->β->Prop} (f:∀a b,F a b->G a b) {l₁:List α}{vV:List β} (r:Paired F l₁ vV):Paired G l₁ vV:=Paired.yZ r f
theorem bt.f' (x:bt P w H h a o) (k:∀b u,(b=a\/H b=some (.own a))->h.get? b=some u->h'.get? b=some u)
  (ho:∀b,H b=some (.own a)->H' b=some (.own a)) (ht:∀b xs,H b=some (.tup xs)->H' b=some (.tup xs)):bt P w H' h' a o:=by
 induction o with
 | lst xs=>obtain⟨z,its,n,r,e⟩:=x;exact⟨z,its,n,r,k _ _ (.inl rfl) e⟩
 | tup xs=>obtain⟨z,its,r,ob,e,c⟩:=x;exact⟨z,its,r,ob,k _ _ (.inl rfl) e,c⟩
 | dK kvs=>obtain⟨z,y,vs,r,ob,es,ep,e,c⟩:=x;exact⟨z,y,vs,r,ob,es,ep,k _ _ (.inl rfl) e,c⟩
 | dT kvs =>
  obtain⟨z,y,xs,r,ob,es,ep,e,c⟩:=x
  exact⟨z,y,xs,Paired.yZ r fun p q z=>⟨z.1,ht _ _ z.2.1,z.2.2⟩,ob,es,ep,k _ _ (.inl rfl) e,c⟩
 | set S n=>obtain⟨ob,es,ep,t,e,c⟩:=x;exact⟨ob,es,ep,t,k _ _ (.inl rfl) e,c⟩
 | ins C dx fs =>
  obtain⟨d,z,ne,e,mA,⟨od,es,ep,e2,c⟩,r⟩:=x
  exact⟨ho _ d,z,ne,k _ _ (.inl rfl) e,mA,⟨od,es,ep,k _ _ (.inr d) e2,c⟩,r⟩
 | own y=>obtain⟨ob,e⟩:=x;exact⟨ob,k _ _ (.inl rfl) e⟩
 | xd fs=>obtain⟨mA,⟨od,es,ep,e,c⟩,r⟩:=x;exact⟨mA,⟨od,es,ep,k _ _ (.inl rfl) e,c⟩,r⟩
 | wH lo hi=>obtain⟨t,u,v,e⟩:=x;exact⟨t,u,v,k _ _ (.inl rfl) e⟩
 | ip ob u ih=>obtain⟨e,q⟩:=x;exact⟨k _ _ (.inl rfl) e,ih q⟩
 | m8 ps =>
  have e:h.get? a=some { cls:= .none,data:= .fields ps }:=x
  show h'.get? a=some { cls:= .none,data:= .fields ps }
  exact k a _ (.inl rfl) e
 | met f y =>
  have e:h.get? a=some (PySem.W.methodObj (.ref f) (.ref y)):=x
  show h'.get? a=some (PySem.W.methodObj (.ref f) (.ref y))
  exact k a _ (.inl rfl) e
 | ext φ=>obtain⟨p,⟨o,e⟩,st⟩:=x;exact⟨st _ _ p fun o q=>k _ _ (.inl rfl) q,⟨o,k _ _ (.inl rfl) e⟩,st⟩
theorem cq.lt (x:cq P w H h) (e:H a=some o):a < h.objs.size:=(x a o e).lt
theorem cq.fresh (x:cq P w H h) (e:h.objs.size<=a):H a=none:=by
 cases q:H a with
 | none=>rfl
 | some u=>exact absurd (fZ (x.lt q) e) (pF _)
theorem cq.kept (x:cq P w H h) (k:∀b u,h.get? b=some u->h'.get? b=some u):cq P w H h':=fun a o e =>
 (x a o e).f' (fun b u _ q=>k b u q) (fun _ q=>q) fun _ _ q=>q
theorem cq.laid (x:cq P w H h) (k:∀b u,h.get? b=some u->h'.get? b=some u) (hp:h.objs.size<=a) (new:bt P w (upd H a o) h' a o):cq P w (upd H a o) h':=fun b u e=>by
 have hn:=x.fresh hp
 by_cases hb:b=a
 ·subst hb;rw[ag]at e;cases e;exact new
 ·rw[ah hb]at e
  exact(x b u e).f' (fun c v _ q=>k c v q) (fun c q=>by rw[ah (ao q hn)];exact q) fun c xs q=>by rw[ah (ao q hn)];exact q
end
def Rd (H:Hp) (a:Addr) (u:HO):Prop:=H a=some u \/ ∃o,H a=some (.ip o u)
theorem Rd.ok {P:Program}{w:World}{H:Hp}{h:Heap}{a:Addr}{u:HO} (r:Rd H a u) (x:cq P w H h):bt P w H h a u:=by
 rcases r with r | ⟨o,r⟩
 ·exact x a u r
 ·obtain⟨_,q⟩:=x a _ r
  exact q
def wI:Option HO->Prop
 | some (.lst _)=>True
 | some (.dK _)=>True
 | some (.dT _)=>True
 | some (.set _ _)=>True
 | some (.ins _ _ _)=>True
 | some (.ext _)=>True
 | _=>False
section
variable {P : Program} {w : World} {H : Hp} {h h' : Heap} {x e : Addr} {o' : HO}
theorem cq.write (ok:cq P w H h) (mu:wI (H x)) (he:e=x\/H e=some (.own x)) (k:∀b u,b≠e->h.get? b=some u->h'.get? b=some u) (uc:∃u,h'.get? e=some u)
  (new:bt P w (upd H x o') h' x o'):cq P w (upd H x o') h':=fun b u q=>by
 have NN:∀c y,H c=some (.own y)->c≠x:=fun c y r z=>by subst z;rw[r]at mu;exact mu
 have ZZ:∀c xs,H c=some (.tup xs)->c≠x:=fun c xs r z=>by subst z;rw[r]at mu;exact mu
 by_cases hb:b=x
 ·subst hb;rw[ag]at q;cases q;exact new
 ·rw[ah hb]at q
  by_cases qF:b=e
  ·have q':H b=some (.own x):=by
    rcases he with z | z
    ·exact absurd (qF.trans z) hb
    ·rw[qF];exact z
   rw[q]at q';cases q'
   obtain⟨v,hv⟩:=uc
   exact⟨v,by rw[qF];exact hv⟩
  ·refine(ok b u q).f' (fun c v hc r=>k c v ?_ r) (fun c r=>by rw[ah (NN c b r)];exact r) fun c xs r=>by rw[ah (ZZ c xs r)];exact r
   rcases hc with rfl | hc
   ·exact qF
   ·rintro rfl
    rcases he with z | z
    ·exact NN c b hc z
    ·rw[hc]at z;cases z;exact hb rfl
end
structure Un (fs ex:List Addr) (H H':Hp) (h h':Heap):Prop where
 keep:∀b o,h.get? b=some o->H b=none->b ∉ fs->b ∉ ex->h'.get? b=some o
 slot:∀b o,h.get? b=some o->H b=none->b∈fs->b ∉ ex -> ∃sl,h'.get? b=some { o with slots:=sl }
 free:∀b o,h.get? b=some o->H b=none->b ∉ ex->H' b=none
 there:∀b o,h.get? b=some o->b ∉ ex -> ∃o',h'.get? b=some o'
 jv:∀b xs,H b=some (.tup xs)->H' b=some (.tup xs)
 iY:∀b o u,H b=some (.ip o u)->H' b=some (.ip o u)
 jw:∀b ps,H b=some (.m8 ps) -> ∃more,H' b=some (.m8 (ps++more))
section
variable {fs fs' ex ex' : List Addr} {H H1 H2 : Hp} {h h1 h2 h' : Heap} {a x e : Addr} {o : HO}
theorem Un.any (u:Un fs ex H H1 h h1) {b:Addr}{ob:Obj} (q:h.get? b=some ob) (n:H b=none) (hx:b ∉ ex):∃sl,h1.get? b=some { ob with slots:=sl }:=by
 by_cases hb:b∈fs
 ·exact u.slot b ob q n hb hx
 ·exact⟨ob.slots,u.keep b ob q n hb hx⟩
theorem Un.kept (k:∀b u,h.get? b=some u->h'.get? b=some u):Un fs ex H H h h':=
 ⟨fun b ob q _ _ _=>k b ob q,fun b ob q _ _ _=>⟨ob.slots,k b ob q⟩,fun _ _ _ n _=>n,fun b ob q _=>⟨ob,k b ob q⟩,fun _ _ q=>q,fun _ _ _ q=>q,fun _ ps q=>⟨#[],by rw[q];simp⟩⟩
theorem Un.refl:Un fs ex H H h h:=Un.kept fun _ _ q=>q
theorem Un.laid (k:∀b u,h.get? b=some u->h'.get? b=some u) (hp:h.objs.size<=a) (hn:H a=none):Un fs ex H (upd H a o) h h' where
 keep:=fun b u q _ _ _=>k b u q
 slot:=fun b u q _ _ _=>⟨u.slots,k b u q⟩
 free:=fun b u q n _=>by rw[ah (bh (fZ (aU q) hp))];exact n
 there:=fun b u q _=>⟨u,k b u q⟩
 jv:=fun b xs q=>by rw[ah (ao q hn)];exact q
 iY:=fun b u xs q=>by rw[ah (ao q hn)];exact q
 jw:=fun b ps q=>⟨#[],by rw[ah (ao q hn),q];simp⟩
theorem Un.write (mu:wI (H x)) (he:e=x\/H e=some (.own x)) (k:∀b u,b≠e->h.get? b=some u->h'.get? b=some u) (uc:∃u,h'.get? e=some u):Un fs ex H (upd H x o) h h':=by
 have hx:∀b,H b=none->b≠x:=fun b n z=>by subst z;rw[n]at mu;exact mu
 have hb:∀b,H b=none->b≠e:=fun b n z=>by
  subst z
  rcases he with r | r
  ·exact hx b n r
  ·rw[n]at r;cases r
 have hm:∀b u,H b=some u -> ¬ wI (some u)->b≠x:=fun b u q nm z=>by subst z;rw[q]at mu;exact nm mu
 refine⟨fun b u q n _ _=>k b u (hb b n) q,fun b u q n _ _=>⟨u.slots,k b u (hb b n) q⟩,fun b u q n _=>by rw[ah (hx b n)];exact n,fun b u q _=>?_,
  fun b xs q=>by rw[ah (hm b _ q fun z=>z)];exact q,fun b u xs q=>by rw[ah (hm b _ q fun z=>z)];exact q,fun b ps q=>⟨#[],by rw[ah (hm b _ q fun z=>z),q];simp⟩⟩
 by_cases qF:b=e
 ·subst qF;exact uc
 ·exact⟨u,k b u qF q⟩
end
def iL (h:Heap) (H:Hp):List Addr:=(List.range h.objs.size).filter fun a=>(H a).isSome
def m3 (h:Heap) (H:Hp):Heap:=PySem.W.hideAll h (iL h H)
theorem Vp (h:Heap) (H:Hp):(m3 h H).objs.size=h.objs.size:=PySem.W.hideAll_size _ _
theorem V8 {h:Heap}{H:Hp}{b:Addr}{o:Obj} (e:h.get? b=some o) (n:H b=none):(m3 h H).get? b=some o:=
 PySem.W.hideAll_get _ e fun hm=>by
  have q:(H b).isSome=true:=(hV.mp hm).2
  rw[n]at q;simp at q
theorem W7 {h:Heap}{H:Hp}{b:Addr}{o:Obj} (e:(m3 h H).get? b=some o):h.get? b=some o/\H b=none:=by
 have e':h.get? b=some o:=PySem.W.of_hideAll (iL h H) e
 refine⟨e',?_⟩
 cases q:H b with
 | none=>rfl
 | some x =>
  have hm:b∈iL h H:=hV.mpr ⟨l8.mpr (aU e'),by simp[q]⟩
  have z:(m3 h H).get? b=none:=PySem.W.hideAll_none (iL h H) hm
  rw[z]at e;cases e
def B3 (g h:Heap) (L:Addr):List (Addr×Obj):=(List.range h.objs.size).filterMap fun a=>if a=L\/(g.get? a).isSome=true then none else (h.get? a).map fun o=>(a,o)
theorem rP {g h:Heap}{L a:Addr}{o:Obj} (h1:a≠L) (h2:g.get? a=none) (h3:h.get? a=some o):(a,o)∈B3 g h L:=
 pG.mpr ⟨a,l8.mpr (aU h3),by simp[h1,h2,h3]⟩
theorem yi {g h:Heap}{L:Addr}{p:Addr×Obj} (hp:p∈B3 g h L):p.1≠L/\g.get? p.1=none/\h.get? p.1=some p.2:=by
 obtain⟨b,_,e⟩:=pG.mp hp
 split at e
 ·cases e
 ·rename_i hn
  cases q:h.get? b with
  | none=>rw[q]at e;simp at e
  | some u =>
   rw[q]at e
   simp only[AA,Option.some.injEq]at e
   subst e
   refine⟨fun z=>hn (.inl z),?_,q⟩
   show g.get? b=none
   cases r:g.get? b with
   | none=>rfl
   | some v=>exact(hn (.inr (by simp[r]))).elim
theorem BJ {g h:Heap}{L:Addr}:News g L h (B3 g h L):=fun p hp=>let ⟨a,b,c⟩:=yi hp;⟨c,a,b⟩
end L2
namespace L2
open PySem PySem.Spec PyProof.Rows
structure Mod (K:PySem.W.Frag) (mg:Str->Option Value) (base:Heap):Prop where
 iM:K.In base
 glob:base.Ns mainGlobals mg
 blt:∃mb,base.Ns builtinsNs mb /\ ∀x:Str,x ≠ "__name__" -> mb x=bootBuiltins x
 nolimit:base.NoLimit
structure Cx where
 prog:Program
 w:World
 K:PySem.W.Frag
 mg:Str->Option Value
 base:Heap
 A:Around
 N:List Str
 cp:Shared
 iI:Hp
 env:Env
 outer:List Env
 stack:List Env
 ex:List Addr
 fn:Str->Bool
 calm:Bool
 pn:List (Addr×Obj)
 xe:Value->Shared->Prop
def cu (l:List Env):List Addr:=l.filterMap (·.frame)
abbrev Cx.fs (X:Cx):List Addr:=cu X.outer
def FJ (sc:Scope) (x:Str):Prop:=sc.names.lookup x=some .local\/sc.names.lookup x=some .cell\/sc.names.lookup x=some .free
def Loc (sc:Scope) (x:Str):Prop:=sc.names.lookup x=some .local\/sc.names.lookup x=some .cell
def Look (env:Env) (h:Heap) (m:Str->Option Value) (x:Str) (u:Value):Prop:=
 (env.kindOf x=some .local/\m x=some u)\/((env.kindOf x=some .cell\/env.kindOf x=some .free) /\ ∃c,env.cells.lookup x=some c/\h.IsCell c (some u))
structure Cx.Ok (X:Cx):Prop where
 mod:Mod X.K X.mg X.base
 kind:X.env.scope.kind = .function
 glob:X.env.globals=mainGlobals
 blt:X.env.builtins=builtinsNs
 above:X.cp.heap.objs.size<=X.env.locals
 inj:∀x y c,X.env.cells.lookup x=some c->X.env.cells.lookup y=some c->x=y
 has:∀x,(X.env.kindOf x=some .cell\/X.env.kindOf x=some .free) -> ∃c,X.env.cells.lookup x=some c
 m9:∀x c,X.fn x=true->X.env.cells.lookup x=some c->X.cp.heap.objs.size<=c
 hd:X.calm=true->X.A.handled=none
 frames:X.A.frames=some X.stack
 kJ:X.stack=X.outer\/(X.stack=X.env::X.outer/\X.env.frame=some X.env.locals)
 lO:∀b∈X.ex,b≠X.env.locals /\ ∀x c,X.env.cells.lookup x=some c->c≠b
 bs:∀b o,X.base.get? b=some o->X.cp.heap.get? b=some o/\X.iI b=none
 jB:X.base.objs.size<=X.cp.heap.objs.size
 m4:∀b o,X.base.get? b=some o->b ∉ X.ex
 lI:∀b∈X.ex,b ∉ X.fs
 fg:X.cp.heap.FunFrames X.base X.outer
 jW:∀b∈X.fs,X.iI b=none
structure Inv (X:Cx) (pins:List (Addr×Obj)) (σ:List (Option V)) (H:Hp) (s:Shared):Prop where
 ok:X.Ok
 os:s.os=X.cp.os
 bare:AllBare s.gens
 base:Un X.fs X.ex X.iI H X.cp.heap s.heap
 loc:∃m,s.heap.Ns X.env.locals m /\ ∀ (i:Nat) (x:Str) (v:V),X.N[i]? = some x->σ[i]? = some (some v)->FJ X.env.scope x -> ∃u,RelV v u/\Look X.env s.heap m x u
 cell:∀x c,X.env.cells.lookup x=some c -> ∃v,s.heap.IsCell c v
 free:H X.env.locals=none
 gT:∀x c,X.env.cells.lookup x=some c->H c=none
 pin:∀p∈X.pn++pins,s.heap.get? p.1=some p.2/\H p.1=none/\p.1≠X.env.locals/\p.1 ∉ X.fs /\ ∀v,p.2.data ≠ .cell v
 ar:cq X.prog X.w H s.heap
 len:σ.length=X.N.length
section
variable {X : Cx} {pins : List (Addr × Obj)} {σ : List (Option V)} {H H' : Hp} {s : Shared} {h' : Heap}
theorem Cx.Ok.qp (ok:X.Ok) {b:Addr}{o:Obj} (e:X.base.get? b=some o):b ∉ X.fs:=fun hb=>by
 have:=(ok.fg.mem hb).1
 rw[e]at this;cases this
theorem Inv.bs (I:Inv X pins σ H s):∀b o,X.base.get? b=some o->s.heap.get? b=some o/\H b=none:=fun b o e =>
 ⟨I.base.keep b o (I.ok.bs b o e).1 (I.ok.bs b o e).2 (I.ok.qp e) (I.ok.m4 b o e),I.base.free b o (I.ok.bs b o e).1 (I.ok.bs b o e).2 (I.ok.m4 b o e)⟩
theorem Inv.bk (I:Inv X pins σ H s):∀b o,X.base.get? b=some o->s.heap.get? b=some o:=fun b o e=>(I.bs b o e).1
theorem Inv.mod (I:Inv X pins σ H s):Mod X.K X.mg X.base:=I.ok.mod
theorem Inv.a7 (I:Inv X pins σ H s):X.K.In s.heap:=I.ok.mod.iM.keeps I.bk
theorem Inv.lt (I:Inv X pins σ H s):X.env.locals < s.heap.objs.size:=let ⟨_,hn,_⟩:=I.loc;hn.lt
theorem Inv.sz (I:Inv X pins σ H s):X.cp.heap.objs.size<=s.heap.objs.size:=cK I.ok.above (xZ I.lt)
theorem Inv.Z0 (I:Inv X pins σ H s) {a:Addr} (h:s.heap.objs.size<=a):a ∉ X.fs:=fun hb=>by
 obtain⟨_,o,ho,_⟩:=I.ok.fg.mem hb
 exact absurd (fZ (aU ho) (cK I.sz h)) (pF _)
theorem Inv.kU (I:Inv X pins σ H s):∀x c,X.env.cells.lookup x=some c->c≠X.env.locals:=fun x c e z=>by
 obtain⟨v,o,ho,hd⟩:=I.cell x c e
 obtain⟨m,⟨o',es,ep,gv,wJ,_⟩,_⟩:=I.loc
 rw[z,gv]at ho;cases ho;rw[wJ]at hd;cases hd
theorem Inv.fg (I:Inv X pins σ H s):s.heap.FunFrames X.base X.outer:=by
 have all:∀ (l:List Env),(∀b∈cu l,b∈X.fs)->X.cp.heap.FunFrames X.base l->s.heap.FunFrames X.base l:=by
  intro l
  induction l with
  | nil=>intro _ _;trivial
  | cons env r ih =>
   intro hs hl
   obtain⟨hk,⟨L,o,hf,hn,ho,hd⟩,hr⟩:=hl
   have hL:L∈X.fs:=hs L (by unfold cu;rw[Ta,hf];exact ba)
   obtain⟨sl,e⟩:=I.base.slot L o ho (I.ok.jW L hL) hL fun z=>I.ok.lI L z hL
   exact⟨hk,⟨L,_,hf,hn,e,hd⟩,ih (fun b hb=>hs b (by unfold cu;rw[Ta,hf];exact bU _ hb)) hr⟩
 exact all X.outer (fun _ hb=>hb) I.ok.fg
theorem Inv.stack (I:Inv X pins σ H s):s.heap.FunFrames X.base X.stack:=by
 rcases I.ok.kJ with e | ⟨e,hf⟩
 ·rw[e];exact I.fg
 ·rw[e]
  obtain⟨m,hn,_⟩:=I.loc
  refine .cons (by rw[I.ok.kind];decide) hf hn ?_ I.fg
  exact uQ (cK I.ok.jB I.ok.above)
theorem Inv.vx (I:Inv X pins σ H s):∀b∈cu X.stack,b∈X.env.locals::X.fs:=fun b hb=>by
 rcases I.ok.kJ with e | ⟨e,hf⟩
 ·rw[e]at hb;exact bU _ hb
 ·rw[e]at hb
  unfold cu at hb
  rw[Ta,hf]at hb
  exact hb
theorem Inv.yH (I:Inv X pins σ H s):∀b∈cu X.stack,H b=none:=fun b hb=>by
 rcases bq.mp (I.vx b hb) with e | hb
 ·rw[e];exact I.free
 ·obtain⟨_,o,ho,_⟩:=I.ok.fg.mem hb
  exact I.base.free b o ho (I.ok.jW b hb) fun z=>I.ok.lI b z hb
theorem Inv.step {g':Array GenState}{t':Nat}{d':Drawn}{ch:List Addr} (I:Inv X pins σ H s)
  (lP:∀b∈ch,(b∈X.ex\/X.cp.heap.objs.size<=b)/\b≠X.env.locals/\(∀x c,X.env.cells.lookup x=some c->c≠b) /\ ∀p∈X.pn++pins,p.1≠b)
  (keep:∀b o,b≠X.env.locals->b ∉ X.fs->b ∉ ch->s.heap.get? b=some o->H b=none->h'.get? b=some o)
  (slot:∀b o,b≠X.env.locals->b∈X.fs->b ∉ ch->s.heap.get? b=some o->H b=none -> ∃sl,h'.get? b=some { o with slots:=sl }) (free:∀b o,b ∉ ch->s.heap.get? b=some o->H b=none->H' b=none)
  (there:∀b o,b ∉ ch->s.heap.get? b=some o -> ∃o',h'.get? b=some o')
  (jv:∀b xs,H b=some (.tup xs)->H' b=some (.tup xs)) (iY:∀b o u,H b=some (.ip o u)->H' b=some (.ip o u)) (jw:∀b ps,H b=some (.m8 ps) -> ∃more,H' b=some (.m8 (ps++more)))
  (ns:∀m,s.heap.Ns X.env.locals m->h'.Ns X.env.locals m) (ar:cq X.prog X.w H' h') (hg:AllBare g') :
  Inv X pins σ H' { s with heap:=h',gens:=g',drawn:=d',toks:=t' }:=by
 have wK:∀b o,X.cp.heap.get? b=some o->b≠X.env.locals:=fun b o e=>bh (fZ (aU e) I.ok.above)
 have zw:∀b o,X.cp.heap.get? b=some o->b ∉ X.ex->b ∉ ch:=fun b o e hx hb=>by
  rcases (lP b hb).1 with z | z
  ·exact hx z
  ·exact absurd (fZ (aU e) z) (pF _)
 have cellK:∀x c,X.env.cells.lookup x=some c -> ∀v,s.heap.IsCell c v->h'.IsCell c v:=fun x c e v ⟨o,ho,hd⟩=>by
  have gf:c ∉ ch:=fun z=>(lP c z).2.2.1 x c e rfl
  by_cases hc:c∈X.fs
  ·obtain⟨sl,q⟩:=slot c o (I.kU x c e) hc gf ho (I.gT x c e)
   exact⟨_,q,hd⟩
  ·exact⟨o,keep c o (I.kU x c e) hc gf ho (I.gT x c e),hd⟩
 refine⟨I.ok,I.os,hg,⟨fun b o e n hb hx=>?_,fun b o e n hb hx=>?_,fun b o e n hx=>?_,fun b o e hx=>?_,fun b xs e=>jv b xs (I.base.jv b xs e),fun b o xs e=>iY b o xs (I.base.iY b o xs e),fun b ps e=>?_⟩,?_,fun x c e=>?_,?_,fun x c e=>?_,fun p hp=>?_,ar,I.len⟩
 ·exact keep b o (wK b o e) hb (zw b o e hx) (I.base.keep b o e n hb hx) (I.base.free b o e n hx)
 ·obtain⟨sl,e1⟩:=I.base.slot b o e n hb hx
  obtain⟨wL,e2⟩:=slot b _ (wK b o e) hb (zw b o e hx) e1 (I.base.free b o e n hx)
  exact⟨wL,e2⟩
 ·obtain⟨o',e1⟩:=I.base.there b o e hx
  exact free b o' (zw b o e hx) e1 (I.base.free b o e n hx)
 ·obtain⟨o',e1⟩:=I.base.there b o e hx
  exact there b o' (zw b o e hx) e1
 ·obtain⟨m1,e1⟩:=I.base.jw b ps e
  obtain⟨m2,e2⟩:=jw b _ e1
  exact⟨m1++m2,by rw[e2,Array.append_assoc]⟩
 ·obtain⟨m,hn,hl⟩:=I.loc
  refine⟨m,ns m hn,fun i x v e1 e2 e3=>?_⟩
  obtain⟨u,r,l⟩:=hl i x v e1 e2 e3
  refine⟨u,r,?_⟩
  rcases l with l | ⟨k,c,e,z⟩
  ·exact .inl l
  ·exact .inr ⟨k,c,e,cellK x c e _ z⟩
 ·obtain⟨v,z⟩:=I.cell x c e
  exact⟨v,cellK x c e v z⟩
 ·obtain⟨m,⟨o,_,_,ho,_⟩,_⟩:=I.loc
  exact free _ o (fun z=>(lP _ z).2.1 rfl) ho I.free
 ·obtain⟨v,o,ho,hd⟩:=I.cell x c e
  exact free c o (fun z=>(lP c z).2.2.1 x c e rfl) ho (I.gT x c e)
 ·obtain⟨e,n,ne,nf,d⟩:=I.pin p hp
  have gf:p.1 ∉ ch:=fun z=>(lP p.1 z).2.2.2 p hp rfl
  exact⟨keep p.1 p.2 ne nf gf e n,free p.1 p.2 gf e n,ne,nf,d⟩
theorem Inv.un {t':Nat} (I:Inv X pins σ H s) (u:Un X.fs [] H H' s.heap h') (ar:cq X.prog X.w H' h'):Inv X pins σ H' { s with heap:=h',toks:=t' }:=by
 obtain⟨m,⟨o,es,ep,ho,r⟩,_⟩:=id I.loc
 obtain⟨sl,hL⟩:=u.any ho I.free (by simp)
 exact I.step (g':=s.gens) (d':=s.drawn) (ch:= []) (fun _ z=>nomatch z) (fun b o _ hb _ e n=>u.keep b o e n hb (by simp)) (fun b o _ hb _ e n=>u.slot b o e n hb (by simp)) (fun b o _ e n=>u.free b o e n (by simp)) (fun b o _ e=>u.there b o e (by simp)) u.jv u.iY u.jw (fun m' hm=>by
  obtain⟨o',gK,FK,gv,r'⟩:=hm
  rw[ho]at gv;cases gv
  exact⟨_,gK,FK,hL,r'⟩) ar I.bare
theorem Inv.call {g':Array GenState}{t':Nat}{d':Drawn}{ch:List Addr} (I:Inv X pins σ H s) (u:Un (cu X.stack) ch H H' s.heap h') (ar:cq X.prog X.w H' h') (hg:AllBare g')
  (lP:∀b∈ch,(b∈X.ex\/X.cp.heap.objs.size<=b)/\b≠X.env.locals/\(∀x c,X.env.cells.lookup x=some c->c≠b) /\ ∀p∈X.pn++pins,p.1≠b) :
  Inv X pins σ H' { s with heap:=h',gens:=g',drawn:=d',toks:=t' }:=by
 obtain⟨m,⟨o,es,ep,ho,r⟩,_⟩:=id I.loc
 obtain⟨sl,hL⟩:=u.any ho I.free fun z=>(lP _ z).2.1 rfl
 exact I.step (ch:=ch) lP (fun b o hL hb hc e n=>u.keep b o e n (fun z=>(bq.mp (I.vx b z)).elim hL hb) hc) (fun b o _ _ hc e n=>u.any e n hc) (fun b o hc e n=>u.free b o e n hc) (fun b o hc e=>u.there b o e hc) u.jv u.iY u.jw (fun m' hm=>by
  obtain⟨o',gK,FK,gv,r'⟩:=hm
  rw[ho]at gv;cases gv
  exact⟨_,gK,FK,hL,r'⟩) ar hg
theorem Inv.turned {t':Nat}{it:Addr} (I:Inv X pins σ H s) (k:∀b o,b≠it->s.heap.get? b=some o->h'.get? b=some o) (hn:H it=none) (hL:it≠X.env.locals)
  (h1:it∈X.ex\/X.cp.heap.objs.size<=it) (h2:∀x c,X.env.cells.lookup x=some c->c≠it) (h3:∀p∈X.pn++pins,p.1≠it):Inv X pins σ H { s with heap:=h',toks:=t' }:=by
 have Pw:∀b u,H b=some u->b≠it:=fun b u e z=>by rw[z,hn]at e;cases e
 refine I.step (g':=s.gens) (d':=s.drawn) (ch:= [it]) (fun b hb=>?_) (fun b o _ _ hc e _=>k b o (fun z=>hc (by simp[z])) e) (fun b o _ _ hc e _=>⟨o.slots,k b o (fun z=>hc (by simp[z])) e⟩) (fun _ _ _ _ n=>n)
  (fun b o hc e=>⟨o,k b o (fun z=>hc (by simp[z])) e⟩) (fun _ _ e=>e) (fun _ _ _ e=>e) (fun b ps e=>⟨#[],by rw[e];simp⟩) (fun m hm=>?_) (fun b u e=>?_) I.bare
 ·have e:b=it:=by simpa using hb
  subst e
  exact⟨h1,hL,h2,h3⟩
 ·obtain⟨o,es,ep,ho,r⟩:=hm
  exact⟨o,es,ep,k _ o (aO hL) ho,r⟩
 ·refine(I.ar b u e).f' (fun c v hc q=>k c v ?_ q) (fun _ q=>q) fun _ _ q=>q
  rcases hc with z | z
  ·rw[z];exact Pw b u e
  ·exact Pw c _ z
theorem Inv.tok (I:Inv X pins σ H s) (t:Nat):Inv X pins σ H { s with toks:=t }:=I.un (h':=s.heap) (t':=t) Un.refl I.ar
theorem Inv.kept {t':Nat} (I:Inv X pins σ H s) (k:∀b u,s.heap.get? b=some u->h'.get? b=some u):Inv X pins σ H { s with heap:=h',toks:=t' }:=I.un (Un.kept k) (I.ar.kept k)
theorem Inv.laid {a:Addr}{o:HO}{t':Nat} (I:Inv X pins σ H s) (k:∀b u,s.heap.get? b=some u->h'.get? b=some u) (hp:s.heap.objs.size<=a) (new:bt X.prog X.w (upd H a o) h' a o) :
  Inv X pins σ (upd H a o) { s with heap:=h',toks:=t' }:=I.un (Un.laid k hp (I.ar.fresh hp)) (I.ar.laid k hp new)
theorem Inv.write {x e:Addr}{o:HO}{t':Nat} (I:Inv X pins σ H s) (mu:wI (H x)) (he:e=x\/H e=some (.own x)) (k:∀b u,b≠e->s.heap.get? b=some u->h'.get? b=some u) (uc:∃u,h'.get? e=some u)
  (new:bt X.prog X.w (upd H x o) h' x o):Inv X pins σ (upd H x o) { s with heap:=h',toks:=t' }:=I.un (Un.write mu he k uc) (I.ar.write mu he k uc new)
theorem Inv.Mg {vJ:List (Addr×Obj)} (I:Inv X pins σ H s) (h:∀p∈vJ,s.heap.get? p.1=some p.2/\H p.1=none/\p.1≠X.env.locals/\p.1 ∉ X.fs /\ ∀v,p.2.data ≠ .cell v):Inv X vJ σ H s:=
 ⟨I.ok,I.os,I.bare,I.base,I.loc,I.cell,I.free,I.gT,fun p hp=>(dk.mp hp).elim (fun z=>I.pin p (jf _ z)) (h p),I.ar,I.len⟩
theorem BK {N:List Str} (hN:N.Nodup) {i j:Nat}{x:Str} (a:N[i]? = some x) (b:N[j]? = some x):i=j:=by
 obtain⟨h1,e1⟩:=b9.mp a
 obtain⟨h2,e2⟩:=b9.mp b
 exact(List.getElem_inj hN).mp (e1.trans e2.symm)
theorem K5 {M:Model}{A:Around}{E:Value->Shared->Prop}{i:Nat}{x:Str}{v:V}{u:Value}{Q:Unit->Shared->Prop} (I:Inv X pins σ H s) (hN:X.N.Nodup) (hi:X.N[i]? = some x) (hx:Loc X.env.scope x) (r:RelV v u)
  (h:∀s',Inv X pins (σ.set i (some v)) H s'->(∃a,Heap.SameBut a s.heap s'.heap/\(a=X.env.locals\/X.env.cells.lookup x=some a))->Q () s') (hf:X.fn x=true\/X.env.scope.names.lookup x=some .local:=by first | exact .inl rfl | exact .inr rfl | assumption):wpAny M A (storeName X.env x u) Q E s:=by
 obtain⟨m,hn,hl⟩:=id I.loc
 have lJ:(X.env.scope.kind == .class || (X.env.scope.kind == .module && X.env.locals != X.env.globals))=false:=by rw[I.ok.kind];rfl
 have NO:i < σ.length:=by rw[I.len];exact(b9.mp hi).1
 have kU:=I.kU
 have tracked:∀ {a:Addr}{h':Heap},(∃o,s.heap.get? a=some o/\H a=none)->Heap.SameBut a s.heap h'->cq X.prog X.w H h':=fun {a h'} ha hs b ob e=>by
  obtain⟨_,_,vK⟩:=ha
  refine(I.ar b ob e).f' (fun c w' hc q=>(hs.2 c ?_).trans q) (fun _ q=>q) fun _ _ q=>q
  rintro rfl
  rcases hc with rfl | hc
  ·rw[vK]at e;cases e
  ·rw[vK]at hc;cases hc
 rcases hx with hk | hk
 ·refine wpAny_storeName_local hk hn (fun h' i9 hs=>?_) lJ
  obtain⟨oL,_,_,Px,_⟩:=id hn
  refine h _ ⟨I.ok,I.os,I.bare,⟨fun b o e n hb hx=>?_,fun b o e n hb hx=>?_,I.base.free,fun b o e hx=>?_,I.base.jv,I.base.iY,I.base.jw⟩,⟨_,i9,fun j y v' e1 e2 e3=>?_⟩,fun y c e=>?_,I.free,I.gT,fun p hp=>?_,tracked ⟨oL,Px,I.free⟩ hs,by simpa using I.len⟩ ⟨_,hs,.inl rfl⟩
  ·exact(hs.2 b (bh (fZ (aU e) I.ok.above))).trans (I.base.keep b o e n hb hx)
  ·obtain⟨sl,e1⟩:=I.base.slot b o e n hb hx
   exact⟨sl,(hs.2 b (bh (fZ (aU e) I.ok.above))).trans e1⟩
  ·obtain⟨o',e1⟩:=I.base.there b o e hx
   exact⟨o',(hs.2 b (bh (fZ (aU e) I.ok.above))).trans e1⟩
  ·by_cases hj:j=i
   ·subst hj
    rw[hi]at e1;cases e1
    rw[Tb NO]at e2
    cases e2
    exact⟨u,r,.inl ⟨hk,by simp⟩⟩
   ·rw[Tc (aO hj)]at e2
    obtain⟨u',r',q⟩:=hl j y v' e1 e2 e3
    refine⟨u',r',?_⟩
    rcases q with⟨k,e⟩|⟨k,c,e,z⟩
    ·refine .inl ⟨k,?_⟩
     have:y≠x:=fun e=>hj (BK hN e1 (e ▸ hi))
     simp[this,e]
    ·exact .inr ⟨k,c,e,z.sameBut hs (kU y c e)⟩
  ·obtain⟨w',z⟩:=I.cell y c e
   exact⟨w',z.sameBut hs (kU y c e)⟩
  ·obtain⟨e,n,ne,nf,d⟩:=I.pin p hp
   exact⟨(hs.2 p.1 ne).trans e,n,ne,nf,d⟩
 ·have FO:X.fn x=true:=by
   rcases hf with z | z
   ·exact z
   ·rw[z]at hk;cases hk
  obtain⟨c,hc⟩:=I.ok.has x (.inl hk)
  obtain⟨w',z⟩:=I.cell x c hc
  refine wpAny_storeName_cell I.ok.kind hk hc z (fun h' nc hs=>?_)
  obtain⟨oc,Py,Z1⟩:=id z
  refine h { s with heap:=h' } ⟨I.ok,I.os,I.bare,⟨fun b o e n hb hx=>?_,fun b o e n hb hx=>?_,I.base.free,fun b o e hx=>?_,I.base.jv,I.base.iY,I.base.jw⟩,⟨m,hn.sameBut hs (aO (kU x c hc)),fun j y v' e1 e2 e3=>?_⟩,fun y c' e=>?_,I.free,I.gT,fun p hp=>?_,tracked ⟨oc,Py,I.gT x c hc⟩ hs,by simpa using I.len⟩ ⟨c,hs,.inr hc⟩
  ·exact(hs.2 b (bh (fZ (aU e) (I.ok.m9 x c FO hc)))).trans (I.base.keep b o e n hb hx)
  ·obtain⟨sl,e1⟩:=I.base.slot b o e n hb hx
   exact⟨sl,(hs.2 b (bh (fZ (aU e) (I.ok.m9 x c FO hc)))).trans e1⟩
  ·obtain⟨o',e1⟩:=I.base.there b o e hx
   exact⟨o',(hs.2 b (bh (fZ (aU e) (I.ok.m9 x c FO hc)))).trans e1⟩
  ·by_cases hj:j=i
   ·subst hj
    rw[hi]at e1;cases e1
    rw[Tb NO]at e2
    cases e2
    exact⟨u,r,.inr ⟨.inl hk,c,hc,nc⟩⟩
   ·rw[Tc (aO hj)]at e2
    obtain⟨u',r',q⟩:=hl j y v' e1 e2 e3
    refine⟨u',r',?_⟩
    rcases q with q | ⟨k,c',e,z'⟩
    ·exact .inl q
    ·refine .inr ⟨k,c',e,z'.sameBut hs ?_⟩
     rintro rfl
     exact hj (BK hN e1 (I.ok.inj _ _ _ e hc ▸ hi))
  ·by_cases Pz:c'=c
   ·subst Pz;exact⟨_,nc⟩
   ·obtain⟨w2,z2⟩:=I.cell y c' e
    exact⟨w2,z2.sameBut hs Pz⟩
  ·obtain⟨e,n,ne,nf,d⟩:=I.pin p hp
   refine⟨(hs.2 p.1 ?_).trans e,n,ne,nf,d⟩
   intro q
   rw[q,Py]at e
   have q':oc=p.2:=gF e
   exact d w' (by rw[<-q'];exact Z1)
theorem r9 {M:Model}{A:Around}{E:Value->Shared->Prop}{i:Nat}{x:Str}{v:V}{u:Value}{Q:Unit->Shared->Prop} (I:Inv X pins σ H s) (hN:X.N.Nodup) (hi:X.N[i]? = some x) (hx:Loc X.env.scope x) (r:RelV v u)
  (h:∀s',Inv X pins (σ.set i (some v)) H s'->Q () s') (hf:X.fn x=true\/X.env.scope.names.lookup x=some .local:=by first | exact .inl rfl | exact .inr rfl | assumption):wpAny M A (storeName X.env x u) Q E s:=
 K5 I hN hi hx r (fun s' I' _=>h s' I') hf
theorem Inv.vL {s':Shared}{ch:List Addr} (I:Inv X pins σ H s) (ho:s'.os=s.os) (u:Un (cu X.stack) ch H H' s.heap s'.heap) (ar:cq X.prog X.w H' s'.heap) (hg:AllBare s'.gens)
  (lP:∀b∈ch,(b∈X.ex\/X.cp.heap.objs.size<=b)/\b≠X.env.locals/\(∀x c,X.env.cells.lookup x=some c->c≠b) /\ ∀p∈X.pn++pins,p.1≠b):Inv X pins σ H' s':=by
 obtain⟨h',g',d',t',o'⟩:=s'
 have e:o'=s.os:=ho
 subst e
 exact I.call (g':=g') (t':=t') (d':=d') u ar hg lP
end
abbrev XK:=Value->Option Addr->Hp->Prop
abbrev St:=List (Option V)
abbrev VK:=V->Hp->Prop
abbrev TE:=St->Hp->VK->Prop
abbrev TT:=St->Hp->(Bool->Hp->Prop)->Prop
abbrev TA:=St->Hp->(List V->Hp->Prop)->Prop
structure Ends where
 nx:St->Hp->Prop
 rt:VK
 bk:St->Hp->Prop:=fun _ _=>False
 ct:St->Hp->Prop:=fun _ _=>False
abbrev TS:=Ends->St->Hp->Prop
def EP (X:Cx) (pins:List (Addr×Obj)) (σ:St) (Q:VK) (u:Value) (s':Shared):Prop:= ∃v H',Inv X pins σ H' s'/\RelV v u/\Q v H'
def TP (X:Cx) (pins:List (Addr×Obj)) (σ:St) (Q:Bool->Hp->Prop) (b:Bool) (s':Shared):Prop:= ∃H',Inv X pins σ H' s'/\Q b H'
def AP (X:Cx) (pins:List (Addr×Obj)) (σ:St) (Q:List V->Hp->Prop) (us:List Value) (s':Shared):Prop:= ∃vs H',Inv X pins σ H' s'/\Vals vs us/\Q vs H'
def SP (X:Cx) (pins:List (Addr×Obj)) (D:Ends) (f:Flow) (s':Shared):Prop:=
 match f with
 | .next=>∃aH H',Inv X pins aH H' s'/\D.nx aH H'
 | .brk=>∃aH H',Inv X pins aH H' s'/\D.bk aH H'
 | .cont=>∃aH H',Inv X pins aH H' s'/\D.ct aH H'
 | .ret u=>∃v aH H',Inv X pins aH H' s'/\RelV v u/\D.rt v H'
def PE (X:Cx) (e:Expr) (t:TE):Prop:=
 ∀ (pins:List (Addr×Obj)) (s:Shared) (σ:St) (H:Hp) (Q:VK),Inv X pins σ H s->t σ H Q->wpAny (model X.prog X.w) X.A (eval e X.env) (EP X pins σ Q) X.xe s
def PT (X:Cx) (e:Expr) (t:TT):Prop:=
 ∀ (pins:List (Addr×Obj)) (s:Shared) (σ:St) (H:Hp) (Q:Bool->Hp->Prop),Inv X pins σ H s->t σ H Q->wpAny (model X.prog X.w) X.A (isTrue e X.env (eval e X.env)) (TP X pins σ Q) X.xe s
def PW (X:Cx) (e:Expr) (t:TT):Prop:=
 ∀ (whole:Sem Value) (pins:List (Addr×Obj)) (s:Shared) (σ:St) (H:Hp) (Q:Bool->Hp->Prop),Inv X pins σ H s->t σ H Q->wpAny (model X.prog X.w) X.A (isTrue e X.env whole) (TP X pins σ Q) X.xe s
theorem PW.pt {X:Cx}{e:Expr}{t:TT} (h:PW X e t):PT X e t:=h _
def PA (X:Cx) (es:List Expr) (t:TA):Prop:=
 ∀ (pos:Pos) (pins:List (Addr×Obj)) (s:Shared) (σ:St) (H:Hp) (Q:List V->Hp->Prop),Inv X pins σ H s->t σ H Q->wpAny (model X.prog X.w) X.A (spliced (backTo pos (starEach es X.env))) (AP X pins σ Q) X.xe s
def PS (X:Cx) (st:Stmt) (t:TS):Prop:=
 ∀ (pins:List (Addr×Obj)) (s:Shared) (σ:St) (H:Hp) (D:Ends),Inv X pins σ H s->t D σ H->wpAny (model X.prog X.w) X.A (exec st X.env) (SP X pins D) X.xe s
def gg (X:Cx) (st:List Stmt) (t:TS):Prop:=
 ∀ (pins:List (Addr×Obj)) (s:Shared) (σ:St) (H:Hp) (D:Ends),Inv X pins σ H s->t D σ H->wpAny (model X.prog X.w) X.A (execs st X.env) (SP X pins D) X.xe s
theorem au {α:Type}{t:Sem α}{Q Q':α->Shared->Prop}{M:Model}{A:Around}{E:Value->Shared->Prop}{s:Shared} (h:wpAny M A t Q E s) (hQ:∀a s,Q a s->Q' a s):wpAny M A t Q' E s:=md h hQ fun _ _ x=>x
end L2
namespace L2
open PySem PySem.Spec PyProof.Rows
section
variable {X : Cx}
def iZ (i:Nat):TE:=fun σ H Q=>∃v,σ[i]? = some (some v)/\Q v H
def tC (v:V):TE:=fun _ H Q=>Q v H
theorem Ya {i:Nat}{x:Str}{pos:Pos} (hN:X.N[i]? = some x) (hv:FJ X.env.scope x) (hd:(x==("__debug__" : Str))=false:=by decide) (fq:(x==("__classdict__" : Str))=false:=by decide):PE X (.Name x pos) (iZ i):=by
 intro pins s σ H Q I h
 obtain⟨v,e,h⟩:=h
 obtain⟨m,hn,hl⟩:=I.loc
 obtain⟨u,r,l⟩:=hl i x v hN e hv
 have fin:EP X pins σ Q u s:=⟨v,H,I,r,h⟩
 rcases l with⟨hk,hm⟩|⟨hk,c,hc,Nf⟩
 ·exact wpAny_Name (wpAny_loadName_local I.ok.kind hk hn hm fin) hd
 ·rcases hk with hk | hk
  ·exact wpAny_Name (wpAny_loadName_cell I.ok.kind hk hc Nf fin) hd
  ·exact wpAny_Name (wpAny_loadName_free I.ok.kind hk hc Nf fin fq) hd
theorem aP {i j pos}:PE X (.Constant (.int i) j pos) (tC (.int i)):=fun _ _ _ H _ I h=>wpAny_Constant_int ⟨.int i,H,I.tok _,⟨_,rfl⟩,h⟩
theorem km {b j pos}:PE X (.Constant (.bool b) j pos) (tC (.bl b)):=fun _ _ _ H _ I h=>Constant_bool ⟨.bl b,H,I,rfl,h⟩
theorem iE {j pos}:PE X (.Constant .none j pos) (tC .aD):=fun _ _ _ H _ I h=>Constant_none ⟨.aD,H,I,rfl,h⟩
theorem jq {x j pos}:PE X (.Constant (.str x) j pos) (tC (.str x)):=fun _ _ _ H _ I h=>Calls.Constant_str ⟨.str x,H,I.tok _,⟨_,rfl⟩,h⟩
def Gl (X:Cx) (x:Str):Prop:=X.env.kindOf x=some .globalImplicit
theorem ly {E:Value->Shared->Prop}{pins:List (Addr×Obj)}{s:Shared}{σ:St}{H:Hp}{x:Str}{u:Value}{pos:Pos}{Q:Value->Shared->Prop} (I:Inv X pins σ H s) (hg:Gl X x) (hm:X.mg x=some u) (h:Q u s)
  (hd:(x==("__debug__" : Str))=false:=by decide):wpAny (model X.prog X.w) X.A (eval (.Name x pos) X.env) Q E s:=
 aky I.ok.kind hg (Calls.loadGlobal_global (by rw[I.ok.glob];exact I.mod.glob.keeps I.bk) hm h) hd
theorem pZ {E:Value->Shared->Prop}{pins:List (Addr×Obj)}{s:Shared}{σ:St}{H:Hp}{x:Str}{u:Value}{pos:Pos}{Q:Value->Shared->Prop} (I:Inv X pins σ H s) (hg:Gl X x) (hm:X.mg x=none) (hv:bootBuiltins x=some u) (h:Q u s)
  (hn:x ≠ "__name__" :=by decide) (hd:(x==("__debug__" : Str))=false:=by decide):wpAny (model X.prog X.w) X.A (eval (.Name x pos) X.env) Q E s:=by
 obtain⟨mb,h1,h2⟩:=I.mod.blt
 exact aky I.ok.kind hg (Calls.loadGlobal_builtin (by rw[I.ok.glob];exact I.mod.glob.keeps I.bk) hm (by rw[I.ok.blt];exact h1.keeps I.bk) ((h2 x hn).trans hv) h) hd
theorem Mh {x:Str}{v:V}{u:Value}{pos:Pos} (hg:Gl X x) (hm:X.mg x=some u) (r:RelV v u) (hd:(x==("__debug__" : Str))=false:=by decide):PE X (.Name x pos) (tC v):=
 fun _ _ _ H _ I h=>ly I hg hm ⟨v,H,I,r,h⟩ hd
theorem yI {x:Str}{v:V}{u:Value}{pos:Pos} (hg:Gl X x) (hm:X.mg x=none) (hv:bootBuiltins x=some u) (r:RelV v u) (hn:x ≠ "__name__" :=by decide) (hd:(x==("__debug__" : Str))=false:=by decide):PE X (.Name x pos) (tC v):=
 fun _ _ _ H _ I h=>pZ I hg hm hv ⟨v,H,I,r,h⟩ hn hd
variable {a b : Expr} {ta tb : TE} {pos : Pos}
def PC (X:Cx) (op:CmpOp) (a b:Expr) (t:TE):Prop:=
 ∀ (pins:List (Addr×Obj)) (s:Shared) (σ:St) (H:Hp) (Q:VK),Inv X pins σ H s->t σ H Q ->
  wpAny (model X.prog X.w) X.A (eval a X.env) (fun v aY=>wpAny (model X.prog X.w) X.A (eval b X.env) (fun u kq=>wpAny (model X.prog X.w) X.A (compareOp op v u) (EP X pins σ Q) X.xe kq) X.xe aY) X.xe s
def tB (t:TE):TT:=fun σ H Q=>t σ H fun x H1=>∃c,x = .bl c/\Q c H1
theorem MT {op:CmpOp}{t:TE} (h:PC X op a b t) (h1:behindInMarks op b=false:=by first | exact V9 _ (by decide) (by decide)|rfl):PE X (.Compare a [op] [b] pos) t:=fun pins s σ H Q I hw=>wpAny_Compare1 (h pins s σ H Q I hw) h1
theorem Yb {op:CmpOp}{t:TE} (h:PC X op a b t) (h1:behindInMarks op b=false:=by first | exact V9 _ (by decide) (by decide)|rfl):PT X (.Compare a [op] [b] pos) (tB t):=by
 intro pins s σ H Q I hw
 refine wpAny_isTrue_Compare1 (au (h pins s σ H _ I hw) fun v s1 h1=>au h1 fun u s2 h2=>au h2 fun c s3 ⟨x,H1,I1,r1,q1⟩=>?_) h1
 obtain⟨d,rfl,q⟩:=q1
 cases r1
 exact lq ⟨H1,I1,q⟩
theorem ib {e:Expr}{t:TE} (h:PE X e t) (he:∀whole,isTrue e X.env whole=(do let v <- whole;standAt e.pos;holding [v] (truthy v)):=by intro _;rfl):PT X e (tB t):=by
 intro pins s σ H Q I hw
 refine isTrue_plain (au (h pins s σ H _ I hw) fun v s1 ⟨x,H1,I1,r1,q1⟩=>?_) (he _)
 obtain⟨d,rfl,q⟩:=q1
 cases r1
 exact lq ⟨H1,I1,q⟩
variable {tA zx : TT} {rest : List Expr}
def Z2 (t u:TT):TT:=fun σ H Q=>t σ H fun c H1=>if c=true then u σ H1 Q else Q false H1
def tOr (t u:TT):TT:=fun σ H Q=>t σ H fun c H1=>if c=true then Q true H1 else u σ H1 Q
def Z3 (t:TT):TT:=fun σ H Q=>t σ H fun c H1=>Q (!c) H1
theorem pw_and1 (ha:PT X a tA):PW X (.BoolOp .And [a] pos) tA:=by
 intro wh pins s σ H Q I h
 refine isTrue_and (au (ha pins s σ H Q I h) fun c s1 e=>?_)
 cases c with
 | true=>exact isTrue_and_nil e
 | false=>exact e
theorem pw_or1 (ha:PT X a tA):PW X (.BoolOp .Or [a] pos) tA:=by
 intro wh pins s σ H Q I h
 refine isTrue_or (au (ha pins s σ H Q I h) fun c s1 e=>?_)
 cases c with
 | false=>exact isTrue_or_nil e
 | true=>exact e
theorem pw_and (ha:PT X a tA) (hb:PW X (.BoolOp .And (b::rest) pos) zx):PW X (.BoolOp .And (a::b::rest) pos) (Z2 tA zx):=by
 intro wh pins s σ H Q I h
 refine isTrue_and (au (ha pins s σ H _ I h) fun c s1 ⟨H1,I1,q1⟩=>?_)
 cases c with
 | true=>exact hb wh pins s1 σ H1 Q I1 q1
 | false=>exact⟨H1,I1,q1⟩
theorem pw_or (ha:PT X a tA) (hb:PW X (.BoolOp .Or (b::rest) pos) zx):PW X (.BoolOp .Or (a::b::rest) pos) (tOr tA zx):=by
 intro wh pins s σ H Q I h
 refine isTrue_or (au (ha pins s σ H _ I h) fun c s1 ⟨H1,I1,q1⟩=>?_)
 cases c with
 | true=>exact⟨H1,I1,q1⟩
 | false=>exact hb wh pins s1 σ H1 Q I1 q1
theorem iX (ha:PT X a tA):PT X (.UnaryOp .Not a pos) (Z3 tA):=by
 intro pins s σ H Q I h
 exact isTrue_not (ha pins s σ H (fun c H1=>Q (!c) H1) I h)
def YW (ta tb:TE):TE:=fun σ H Q=>ta σ H fun x H1=>∃c,x = .bl c/\if c=true then tb σ H1 Q else Q (.bl false) H1
def YX (ta:TE):TE:=fun σ H Q=>ta σ H fun x H1=>∃c,x = .bl c/\Q (.bl (!c)) H1
theorem Ce {op}{t:TE} (h:PE X a t):PE X (.BoolOp op [a] pos) t:=fun pins s σ H Q I hw=>BoolOp_one (h pins s σ H Q I hw)
theorem Cf (ha:PE X a ta) (hb:PE X (.BoolOp .And (b::rest) pos) tb):PE X (.BoolOp .And (a::b::rest) pos) (YW ta tb):=by
 intro pins s σ H Q I h
 refine BoolOp_and (au (ha pins s σ H _ I h) fun v s1 ⟨x,H1,I1,r1,q1⟩=>?_)
 obtain⟨c,rfl,q1⟩:=q1
 cases r1
 refine lq ?_
 cases c with
 | true=>exact hb pins s1 σ H1 Q I1 q1
 | false=>exact⟨.bl false,H1,I1,rfl,q1⟩
theorem Yc (ha:PE X a ta):PE X (.UnaryOp .Not a pos) (YX ta):=by
 intro pins s σ H Q I h
 refine UnaryOp_ (au (ha pins s σ H _ I h) fun v s1 ⟨x,H1,I1,r1,q1⟩=>?_)
 obtain⟨c,rfl,q1⟩:=q1
 cases r1
 exact not_of (lq ⟨.bl (!c),H1,I1,rfl,q1⟩)
end
end L2
namespace L2
open PySem PySem.Spec PyProof.Rows
def aj (K:PySem.W.Frag) (H:Hp) (a:Addr) (xs:List V):Prop:=
 Rd H a (.lst xs) \/
  ∃ (o:Obj) (its:Array Value) (n:Nat),K.lookup a=some o/\o.cls = .type "list" /\ o.dict=none/\o.data = .seq its n/\its.size<=sizeLine/\Vals xs its.toList
def aJ (K:PySem.W.Frag) (H:Hp) (a:Addr) (xs:List V):Prop:=
 Rd H a (.tup xs) \/
  ∃ (o:Obj) (its:Array Value) (n:Nat),K.lookup a=some o/\o.cls = .type "tuple" /\ o.data = .seq its n/\its.size<=sizeLine/\Vals xs its.toList
def Z4:Value->Option V
 | .none=>some .aD
 | .bool b=>some (.bl b)
 | .int i _=>some (.int i)
 | .str x _=>some (.str x)
 | .bytes b _=>some (.i7 b)
 | .float b _=>some (.i8 b)
 | .ref a=>some (.ref a)
 | .type n=>some (.ty n)
 | _=>none
theorem RelV.abs {x:V}{u:Value} (r:RelV x u):Z4 u=some x:=by
 cases x with
 | aD=>cases r;rfl
 | bl _=>cases r;rfl
 | int _=>obtain⟨t,rfl⟩:=r;rfl
 | str _=>obtain⟨t,rfl⟩:=r;rfl
 | i7 _=>obtain⟨t,rfl⟩:=r;rfl
 | i8 _=>obtain⟨t,rfl⟩:=r;rfl
 | ref _=>cases r;rfl
 | ty _=>cases r;rfl
theorem RelV.inj {x y:V}{u:Value} (r:RelV x u) (q:RelV y u):x=y:=gF (r.abs.symm.trans q.abs)
theorem Vals.inj:∀ {xs ys:List V}{us:List Value},Vals xs us->Vals ys us->xs=ys
 | _,_,_,.nil,.nil=>rfl
 | _,_,_,.cons r t,.cons r' t'=>by rw[r.inj r',Vals.inj t t']
section
variable {X : Cx} {pins : List (Addr × Obj)} {σ : St} {H : Hp} {s : Shared} {a : Addr} {xs ys : List V}
theorem aj.of {K:PySem.W.Frag} (h:H a=some (.lst xs)):aj K H a xs:= .inl (.inl h)
theorem aJ.of {K:PySem.W.Frag} (h:H a=some (.tup xs)):aJ K H a xs:= .inl (.inl h)
theorem Inv.list (I:Inv X pins σ H s) (h:aj X.K H a xs):∃its:List Value,Vals xs its/\PlainL s.heap a its.toArray/\xs.length<=sizeLine:=by
 rcases h with h | ⟨o,its,n,hk,hc,hd,hs,hz,r⟩
 ·obtain⟨z,its,n,r,e⟩:=h.ok I.ar
  exact⟨its,r,⟨_,n,e,rfl,rfl,rfl⟩,z⟩
 ·refine⟨its.toList,r,⟨o,n,I.a7 a o hk,hc,hd,by simpa using hs⟩,?_⟩
  have e:=r.length
  simp only[uR]at e
  omega
theorem Inv.tuple (I:Inv X pins σ H s) (h:aJ X.K H a xs):∃its:List Value,Vals xs its/\IsTup s.heap a its.toArray/\xs.length<=sizeLine:=by
 rcases h with h | ⟨o,its,n,hk,hc,hs,hz,r⟩
 ·obtain⟨z,its,r,p⟩:=h.ok I.ar
  exact⟨its,r,p.is,z⟩
 ·refine⟨its.toList,r,⟨o,I.a7 a o hk,hc,n,by simpa using hs⟩,?_⟩
  have e:=r.length
  simp only[uR]at e
  omega
theorem Inv.vg (I:Inv X pins σ H s) (h:aj X.K H a xs) (h':aj X.K H a ys):xs=ys:=by
 obtain⟨its,r,⟨o,n,e,_,_,d⟩,_⟩:=I.list h
 obtain⟨its',r',⟨o',n',e',_,_,d'⟩,_⟩:=I.list h'
 rw[e]at e';cases e'
 rw[d]at d'
 injection d' with d1 _
 have:its=its':=by simpa using eT Array.toList d1
 subst this
 exact r.inj r'
theorem Inv.Vq (I:Inv X pins σ H s) (h:aJ X.K H a xs) (h':aJ X.K H a ys):xs=ys:=by
 obtain⟨its,r,⟨o,e,_,n,d⟩,_⟩:=I.tuple h
 obtain⟨its',r',⟨o',e',_,n',d'⟩,_⟩:=I.tuple h'
 rw[e]at e';cases e'
 rw[d]at d'
 injection d' with d1 _
 have:its=its':=by simpa using eT Array.toList d1
 subst this
 exact r.inj r'
end
abbrev Cx.jV (X:Cx) (E:Value->Shared->Prop):Cx:={ X with xe:=E }
abbrev Cx.zy (X:Cx):Cx:=X.jV fun _ _=>False
theorem Cx.Ok.jV {X:Cx} (ok:X.Ok) (E:Value->Shared->Prop):(X.jV E).Ok:=
 ⟨ok.mod,ok.kind,ok.glob,ok.blt,ok.above,ok.inj,ok.has,ok.m9,ok.hd,ok.frames,ok.kJ,ok.lO,ok.bs,ok.jB,ok.m4,ok.lI,ok.fg,ok.jW⟩
theorem Cx.Ok.n9 {X:Cx}{E:Value->Shared->Prop} (ok:(X.jV E).Ok):X.Ok:=
 ⟨ok.mod,ok.kind,ok.glob,ok.blt,ok.above,ok.inj,ok.has,ok.m9,ok.hd,ok.frames,ok.kJ,ok.lO,ok.bs,ok.jB,ok.m4,ok.lI,ok.fg,ok.jW⟩
section
variable {X : Cx} {pins : List (Addr × Obj)} {σ : St} {H : Hp} {s : Shared} {E : Value -> Shared -> Prop}
theorem Inv.jV (I:Inv X pins σ H s) (E:Value->Shared->Prop):Inv (X.jV E) pins σ H s:=⟨I.ok.jV E,I.os,I.bare,I.base,I.loc,I.cell,I.free,I.gT,I.pin,I.ar,I.len⟩
theorem Inv.n9 (I:Inv (X.jV E) pins σ H s):Inv X pins σ H s:=⟨I.ok.n9,I.os,I.bare,I.base,I.loc,I.cell,I.free,I.gT,I.pin,I.ar,I.len⟩
theorem SP.n9 {D:Ends}{f:Flow}{s':Shared} (h:SP (X.jV E) pins D f s'):SP X pins D f s':=by
 cases f with
 | next=>obtain⟨aH,H',I,q⟩:=h;exact⟨aH,H',I.n9,q⟩
 | brk=>obtain⟨aH,H',I,q⟩:=h;exact⟨aH,H',I.n9,q⟩
 | cont=>obtain⟨aH,H',I,q⟩:=h;exact⟨aH,H',I.n9,q⟩
 | ret u=>obtain⟨v,aH,H',I,r,q⟩:=h;exact⟨v,aH,H',I.n9,r,q⟩
theorem gg.zy {st:List Stmt}{t:TS} (h:gg X.zy st t):gg X st t:=fun pins s σ H D I hw =>
 md (h pins s σ H D (I.jV _) hw) (fun _ _ q=>q.n9) fun _ _ z=>False.elim z
end
section
variable {X : Cx} {st : Stmt} {rest : List Stmt} {t u : TS} {e : Expr} {te : TE} {pos : Pos}
def YY:TS:=fun D σ H=>D.nx σ H
def Z5 (t u:TS):TS:=fun D σ H=>t { D with nx:=u D } σ H
theorem cM:gg X [] YY:=fun _ _ σ H _ I h=>x4 ⟨σ,H,I,h⟩
theorem aC (h1:PS X st t) (h2:gg X rest u):gg X (st::rest) (Z5 t u):=by
 intro pins s σ H D I h
 refine Td (au (h1 pins s σ H { D with nx:=u D } I h) fun f s1 q=>?_)
 cases f with
 | next =>
  obtain⟨aH,H',I',q⟩:=q
  exact h2 pins s1 aH H' D I' q
 | ret v=>exact q
 | brk=>exact q
 | cont=>exact q
theorem aM (h1:PS X st t):gg X [st] t:=by
 intro pins s σ H D I h
 refine Td (au (h1 pins s σ H D I h) fun f s1 q=>?_)
 cases f with
 | next=>exact x4 q
 | ret v=>exact q
 | brk=>exact q
 | cont=>exact q
theorem Inv.quiet {pins:List (Addr×Obj)}{σ:St}{H:Hp}{s:Shared} (I:Inv X pins σ H s):interactive X.env=false:=by simp[interactive,I.ok.kind]
def YZ (te:TE):TS:=fun D σ H=>te σ H fun _ H1=>D.nx σ H1
theorem fc (he:PE X e te) (hs:swapsWith e none pos.line X.env=pure false:=by rfl):PS X (.Expr e pos) (YZ te):=by
 intro pins s σ H D I h
 exact wpAny_Expr_any (au (he pins s σ H _ I h) fun v s1 ⟨x,H1,I1,r1,q1⟩=>⟨σ,H1,I1,q1⟩) I.quiet hs
def Z6 (te:TE):TS:=fun D σ H=>te σ H D.rt
theorem bo (he:PE X e te):PS X (.Return (some e) pos) (Z6 te):=by
 intro pins s σ H D I h
 exact wpAny_Return_some (au (he pins s σ H _ I h) fun v s1 ⟨x,H1,I1,r1,q1⟩=>⟨x,σ,H1,I1,r1,q1⟩)
def Z7 (c:TT) (t u:TS):TS:=fun D σ H=>c σ H fun b H1=>if b=true then t D σ H1 else u D σ H1
theorem cN {c:Expr}{a b:List Stmt}{tc:TT} (hc:PT X c tc) (ha:gg X a t) (hb:gg X b u):PS X (.If c a b pos) (Z7 tc t u):=by
 intro pins s σ H D I h
 refine wpAny_If (au (hc pins s σ H _ I h) fun d s1 ⟨H1,I1,q1⟩=>?_)
 cases d with
 | true=>exact ha pins s1 σ H1 D I1 q1
 | false=>exact hb pins s1 σ H1 D I1 q1
def Yd:TS:=fun _ _ _=>False
theorem rT {sts:List Stmt}:gg X sts Yd:=fun _ _ _ _ _ _ h=>h.elim
end
abbrev TG:=V->St->Hp->(St->Hp->Prop)->Prop
abbrev lQ:=List V->St->Hp->(St->Hp->Prop)->Prop
def PG (X:Cx) (target:Expr) (t:TG):Prop:=
 ∀ (pins:List (Addr×Obj)) (s:Shared) (σ:St) (H:Hp) (v:V) (u:Value) (Q:St->Hp->Prop),Inv X pins σ H s->RelV v u->t v σ H Q ->
  wpAny (model X.prog X.w) X.A (assign target X.env u) (fun _ s'=>∃aH H',Inv X pins aH H' s'/\Q aH H') X.xe s
def ud (X:Cx) (ts:List Expr) (t:lQ):Prop:=
 ∀ (pins:List (Addr×Obj)) (s:Shared) (σ:St) (H:Hp) (vs:List V) (us:List Value) (Q:St->Hp->Prop),Inv X pins σ H s->Vals vs us->t vs σ H Q ->
  wpAny (model X.prog X.w) X.A (assignInOrder ((assignEach ts X.env).map (·.2)) us) (fun _ s'=>∃aH H',Inv X pins aH H' s'/\Q aH H') X.xe s
abbrev CY:=V->V->V->Hp->(Hp->Prop)->Prop
def NP (X:Cx) (t:CY):Prop:=
 ∀ (pins:List (Addr×Obj)) (s:Shared) (σ:St) (H:Hp) (o i v:V) (ov iv u:Value) (Q:Hp->Prop),Inv X pins σ H s->RelV o ov->RelV i iv->RelV v u->t o i v H Q ->
  wpAny (model X.prog X.w) X.A (setItem ov iv u) (fun _ s'=>∃H',Inv X pins σ H' s'/\Q H') X.xe s
section
variable {X : Cx} {pos : Pos}
def mJ (i:Nat):TG:=fun v σ H Q=>Q (σ.set i (some v)) H
theorem a8 {i:Nat}{x:Str} (hN:X.N.Nodup) (hi:X.N[i]? = some x) (hx:Loc X.env.scope x) (hf:X.fn x=true\/X.env.scope.names.lookup x=some .local:=by first | exact .inl rfl | exact .inr rfl | assumption):PG X (.Name x pos) (mJ i):=by
 intro pins s σ H v u Q I r h
 exact wpAny_assign_Name (r9 I hN hi hx r (fun s' I'=>⟨_,H,I',h⟩) hf)
def NQ:lQ:=fun vs σ H Q=>vs = []/\Q σ H
def Cw (t:TG) (u:lQ):lQ:=fun vs σ H Q=>∃v r,vs=v::r/\t v σ H fun aH H'=>u r aH H' Q
theorem nY:ud X [] NQ:=by
 intro pins s σ H vs us Q I r h
 obtain⟨e,h⟩:=h
 subst e
 cases r
 exact assignInOrder_nil ⟨σ,H,I,h⟩
theorem gQ {e:Expr}{es:List Expr}{t:TG}{u:lQ} (h1:PG X e t) (h2:ud X es u)
  (hs:(assignEach (e::es) X.env).map (·.2)=assign e X.env::(assignEach es X.env).map (·.2):=by rfl):ud X (e::es) (Cw t u):=by
 intro pins s σ H vs us Q I r h
 obtain⟨v,vr,e1,h⟩:=h
 subst e1
 cases r with
 | cons r rr =>
  rw[hs]
  refine Te (au (h1 pins s σ H _ _ _ I r h) fun _ s1 ⟨ue,H1,I1,q1⟩=>?_)
  exact h2 pins s1 ue H1 _ _ Q I1 rr q1
def CZ (K:PySem.W.Frag) (n:Nat) (t:lQ):TG:=fun v σ H Q=>∃a xs,v = .ref a/\aJ K H a xs/\xs.length=n/\t xs σ H Q
theorem sI {es:List Expr}{k:Nat}{t:lQ}{n:Nat} (hc:X.calm=true) (h:ud X es t)
  (hn:(assignEach es X.env).length=n:=by rfl) (wM:(assignEach es X.env).findIdx? (·.1)=none:=by rfl):PG X (.Tuple es k pos) (CZ X.K n t):=by
 intro pins s σ H v u Q I r hw
 obtain⟨a,xs,e1,hq,hl,hw⟩:=hw
 subst e1
 cases r
 obtain⟨its,rv,ht,hz⟩:=I.tuple hq
 refine assign_Tuple_tuple (I.ok.hd hc) ht (by simp[hn,<-hl,rv.length]) wM fun h' hx=>?_
 have I1:Inv X pins σ H { s with heap:=h' }:=I.kept (t':=s.toks) fun b o e=>hx b o (bh (aU e)) e
 exact h pins _ σ H xs _ Q I1 (by simpa using rv) hw
def Z8 (to ti:TE) (t:CY):TG:=fun v σ H Q=>to σ H fun o H1=>ti σ H1 fun i H2=>t o i v H2 fun H3=>Q σ H3
theorem MU {o i:Expr}{to ti:TE}{t:CY} (ho:PE X o to) (hi:PE X i ti) (hs:NP X t)
  (ha:∀v,assign (.Subscript o i pos) X.env v=(do
   let ov <- holding [v] (eval o X.env)
   let iv <- holding [v,ov] (eval i X.env)
   standAt pos
   holding [v,ov,iv] (setItem ov iv v)
   release [v,ov,iv] []):=by intro _;rfl):PG X (.Subscript o i pos) (Z8 to ti t):=by
 intro pins s σ H v u Q I r h
 rw[ha]
 refine af (dX (au (ho pins s σ H _ I h) fun ov s1 ⟨x,H1,I1,r1,q1⟩=>?_))
 refine af (dX (au (hi pins s1 σ H1 _ I1 q1) fun iv s2 ⟨y,H2,I2,r2,q2⟩=>?_))
 refine af (nJ (af (dX (au (hs pins s2 σ H2 x y v ov iv u _ I2 r1 r2 r q2) fun _ s3 ⟨H3,I3,q3⟩=>?_))))
 exact wpAny_release ⟨σ,H3,I3,q3⟩
def C0 (te:TE) (g:TG):TS:=fun D σ H=>te σ H fun x H1=>g x σ H1 D.nx
theorem vy {tg e:Expr}{te:TE}{g:TG} (he:PE X e te) (hg:PG X tg g) (hs:swapsWithSole [tg] e pos.line X.env=pure false:=by rfl) (hw:swappedStores [tg] e X.env=pure none:=by rfl)
  (h1:(assignEach [tg] X.env).map (·.2) = [assign tg X.env]:=by rfl):PS X (.Assign [tg] e pos) (C0 te g):=by
 intro pins s σ H D I h
 refine wpAny_Assign_stores (au (he pins s σ H _ I h) fun v s1 ⟨x,H1,I1,r1,q1⟩=>?_) hs hw
 rw[h1]
 exact au (hg pins s1 σ H1 x v _ I1 r1 q1) fun _ s2 q=>q
theorem a9 {i:Nat}{x:Str}{e:Expr}{te:TE}{pos':Pos} (hN:X.N.Nodup) (hi:X.N[i]? = some x) (hx:Loc X.env.scope x) (he:PE X e te) (hs:swapsWith e (some (.Name x pos')) pos.line X.env=pure false:=by rfl) (hf:X.fn x=true\/X.env.scope.names.lookup x=some .local:=by first | exact .inl rfl | exact .inr rfl | assumption) :
  PS X (.Assign [.Name x pos'] e pos) (C0 te (mJ i)):=by
 intro pins s σ H D I h
 refine wpAny_Assign_Name (au (he pins s σ H _ I h) fun v s1 ⟨y,H1,I1,r1,q1⟩=>?_) hs
 exact r9 I1 hN hi hx r1 (fun s2 I2=>⟨_,H1,I2,q1⟩) hf
def Z9 (i j:Nat) (ta:TA):TS:=fun D σ H=>ta σ H fun vs H1=>∃v w,vs = [v,w]/\D.nx ((σ.set i (some v)).set j (some w)) H1
theorem MV {i j:Nat}{x y:Str}{a b:Expr}{ta:TA}{px py pt:Pos}{kt k2 FQ} (hc:X.calm=true) (hN:X.N.Nodup) (hi:X.N[i]? = some x) (hj:X.N[j]? = some y) (cT:i≠j)
  (hx:X.env.scope.names.lookup x=some .local) (hy:X.env.scope.names.lookup y=some .local) (ha:PA X [a,b] ta)
  (hw:swappedStores [.Tuple [.Name x px,.Name y py] kt pt] (.Tuple [a,b] k2 FQ) X.env=pure (some [x,y]))
  (hs:swapsWithSole [.Tuple [.Name x px,.Name y py] kt pt] (.Tuple [a,b] k2 FQ) pos.line X.env=pure false:=by rfl) :
  PS X (.Assign [.Tuple [.Name x px,.Name y py] kt pt] (.Tuple [a,b] k2 FQ) pos) (Z9 i j ta):=by
 intro pins s σ H D I h
 rw[exec_Assign_arm]
 refine af (nJ ?_)
 rw[hs]
 refine af (aB ?_)
 rw[aq (by decide)]
 refine af (Tuple_ (au (ha _ pins s σ H _ I h) fun us s1 ⟨vs,H1,I1,r1,q1⟩=>?_))
 obtain⟨v,w,e1,q1⟩:=q1
 subst e1
 obtain⟨u1,u2,rfl,rv,gx⟩:∃u1 u2,us = [u1,u2]/\RelV v u1/\RelV w u2:=by
  cases r1 with
  | cons p q =>
   cases q with
   | cons p' q' =>
    cases q'
    exact⟨_,_,rfl,p,p'⟩
 refine AB ?_ (by show 2<=sizeLine;decide)
 have I2:Inv X pins σ H1 { s1 with heap:=s1.heap.push { cls:= .type "tuple", data:= .seq [u1,u2].toArray } }:=I1.kept (t':=s1.toks) fun b o e=>bj _ e
 rw[hw]
 refine af (aB ?_)
 show wpAny (model X.prog X.w) X.A (do rule "assign.swapped-stores"; let items <- unpackItems (.ref s1.heap.objs.size) 2 none;assignInOrder [fun v=>bindName X.env y v,fun v=>bindName X.env x v] items.reverse;pure Flow.next) _ _ _
 refine af (nK (af (unpackItems_tuple (items:= #[u1,u2]) (I.ok.hd hc) (IsTup.new s1.heap _) fun h' eI=>?_)))
 have I3:=I2.kept (h':=h') (t':=s1.toks) fun b o e=>eI b o (bh (aU e)) e
 show wpAny _ _ (assignInOrder [fun v=>bindName X.env y v,fun v=>bindName X.env x v] [u2,u1] >>= fun _=>pure Flow.next) _ _ _
 refine af (Te (wpAny_bindName (r9 I3 hN hj (.inl hy) gx (fun s2 I4=>?_) (.inr hy))))
 refine Te (wpAny_bindName (r9 I4 hN hi (.inl hx) rv (fun s3 I5=>assignInOrder_nil (aB ?_)) (.inr hx)))
 rw[List.set_comm _ _ (aO cT)]at I5
 exact⟨_,H1,I5,q1⟩
end
section
variable {X : Cx} {pos : Pos}
def Ye (c:TT) (tb:TS):TS:=fun D σ H=>∃W:Nat->St->Hp->Prop,(∃m,W m σ H) /\ ∀m σ H,W m σ H ->
 c σ H fun b H1=>if b=true then ∃N:St->Hp->Prop,(∀aH H',N aH H' -> ∃m',m' < m/\W m' aH H')/\tb { D with nx:=N,ct:=N,bk:=D.nx } σ H1 else D.nx σ H1
theorem vh {c:Expr}{body:List Stmt}{tc:TT}{tb:TS} (hp:PassesOwn (model X.prog X.w) X.A X.env X.xe) (hc:PT X c tc) (hb:gg X body tb):PS X (.While c body [] pos) (Ye tc tb):=by
 intro pins s σ H D I h
 obtain⟨W,⟨m0,w0⟩,turn⟩:=h
 refine wpAny_While (codeAny_whileLoop (fun n s'=>∃aH H',Inv X pins aH H' s'/\W n aH H') ?_ m0 ⟨σ,H,I,w0⟩)
 rintro n s1 ⟨ue,H1,I1,w1⟩
 refine uS hp (au (hc pins s1 ue H1 _ I1 (turn n ue H1 w1)) fun b s2 ⟨H2,I2,q2⟩=>?_)
 cases b with
 | true =>
  obtain⟨N,hN,q2⟩:=q2
  rw[aA rfl]
  refine uS hp (au (hb pins s2 ue H2 _ I2 q2) fun f s3 q3=>?_)
  cases f with
  | next =>
   obtain⟨kX,H3,I3,n3⟩:=q3
   obtain⟨m',hm,w3⟩:=hN kX H3 n3
   exact⟨m',hm,kX,H3,I3,w3⟩
  | cont =>
   obtain⟨kX,H3,I3,n3⟩:=q3
   obtain⟨m',hm,w3⟩:=hN kX H3 n3
   exact⟨m',hm,kX,H3,I3,w3⟩
  | brk=>exact q3
  | ret v=>exact q3
 | false =>
  rw[aq cU]
  exact x4 ⟨ue,H2,I2,q2⟩
end
structure It where
 go:Nat->Hp->Prop
 ng:Nat->Hp->V->Hp->Prop
 stop:Nat->Hp->Prop
def fh (X:Cx) (pins:List (Addr×Obj)) (H:Hp) (b:Addr):Prop:=
 H b=none/\b≠X.env.locals/\b ∉ X.fs/\(b∈X.ex\/X.cp.heap.objs.size<=b)/\(∀x c,X.env.cells.lookup x=some c->c≠b) /\ ∀p∈X.pn++pins,p.1≠b
theorem Inv.kr {X:Cx}{pins:List (Addr×Obj)}{σ:St}{H H':Hp}{s:Shared}{b:Addr} (I:Inv X pins σ H s) (hb:s.heap.objs.size<=b) (hn:H' b=none):fh X pins H' b:=by
 refine⟨hn,uT (fZ I.lt hb),I.Z0 hb,.inr (cK I.sz hb),fun x c e z=>?_,fun p hp z=>?_⟩
 ·obtain⟨v,q⟩:=I.cell x c e
  exact absurd (fZ q.lt (by rw[z];exact hb)) (pF _)
 ·exact absurd (fZ (aU (I.pin p hp).1) (by rw[z];exact hb)) (pF _)
structure Turn (P:Program) (w:World) (K:PySem.W.Frag) (tg:Expr) (J:It) (fp:List Addr) (it:Addr) (tn:Nat->Heap->Prop):Prop where
 mem:it∈fp
 obj:∀i h,tn i h -> ∀b∈fp,∃o,h.get? b=some o /\ ∀v,o.data ≠ .cell v
 keep:∀i h h',tn i h->(∀b∈fp,∀o,h.get? b=some o->h'.get? b=some o)->tn i h'
 item:∀ (X:Cx),X.prog=P->X.w=w->X.K=K->X.calm=true -> ∀ (i:Nat) (pins:List (Addr×Obj)) (s:Shared) (σ:St) (H:Hp) (E:Value->Shared->Prop),Inv X pins σ H s->(∀b∈fp,fh X pins H b)->tn i s.heap->J.go i H ->
  wpAny (model P w) X.A (pyNext (.ref it)) (fun r s1=>∃u,r=some u /\
   wpAny (model P w) X.A (letOwnedTupleGo tg (.ref it) u) (fun _ s2=>∃x H',Inv X pins σ H' s2/\RelV x u/\J.ng i H x H'/\tn (i+1) s2.heap /\ ∀b∈fp,H' b=none) E s1) E s
 done:∀ (X:Cx),X.prog=P->X.w=w->X.K=K->X.calm=true -> ∀ (i:Nat) (pins:List (Addr×Obj)) (s:Shared) (σ:St) (H:Hp) (E:Value->Shared->Prop),Inv X pins σ H s->(∀b∈fp,fh X pins H b)->tn i s.heap->J.stop i H ->
  wpAny (model P w) X.A (pyNext (.ref it)) (fun r s1=>r=none/\Inv X pins σ H s1) E s
 self:∀ (A:Around) (i:Nat) (s:Shared) (Q:Value->Shared->Prop) (E:Value->Shared->Prop),tn i s.heap->Q (.ref it) s->wpAny (model P w) A (pyIter (.ref it)) Q E s
abbrev TI:=St->Hp->(It->Hp->Prop)->Prop
def PB (X:Cx) (pins:List (Addr×Obj)) (σ:St) (tg:Expr) (R:It->Hp->Prop) (qG:Value) (s2:Shared):Prop:=
 ∃ (it:Addr) (fp:List Addr) (tn:Nat->Heap->Prop) (J:It) (H':Hp),qG = .ref it/\Inv X pins σ H' s2/\Turn X.prog X.w X.K tg J fp it tn/\tn 0 s2.heap/\(∀b∈fp,fh X pins H' b)/\R J H'
def PI (X:Cx) (tg iter:Expr) (wi:TI):Prop:=
 ∀ (pins:List (Addr×Obj)) (s:Shared) (σ:St) (H:Hp) (R:It->Hp->Prop),Inv X pins σ H s->wi σ H R ->
  wpAny (model X.prog X.w) X.A (eval iter X.env) (fun v s1=>wpAny (model X.prog X.w) X.A (pyIter v) (PB X pins σ tg R) X.xe s1) X.xe s
theorem vM {M:Model}{A:Around}{E:Value->Shared->Prop}{s:Shared}{tg:Expr}{it:Addr}{u:Value}{o:Obj}{n:String}{vs:Array Value}{Q:Unit->Shared->Prop} (ho:s.heap.get? it=some o) (hc:o.cls = .type n) (hd:o.data = .fields vs)
    (hn : ["enumerate", "zip", "dict_itemiterator", "dict_reverseitemiterator", "odict_iterator", "itertools.zip_longest", "itertools.pairwise"].contains n=false) (hQ:Q () s):wpAny M A (letOwnedTupleGo tg (.ref it) u) Q E s:=by
  unfold letOwnedTupleGo
  cases tg <;> first
    | exact aB hQ
    | (cases u <;> first
        | exact aB hQ
        | (refine af (wpAny_load ho ?_)
           rw[hc,hd]
           show wpAny M A (if (["enumerate", "zip", "dict_itemiterator", "dict_reverseitemiterator", "odict_iterator", "itertools.zip_longest", "itertools.pairwise"].contains n && vs[0]? == some (rawInt _))=true then _ else _) Q E s
           rw[aq (by intro h;rw[hn,Bool.false_and]at h;cases h)]
           exact aB hQ))
def oO (K:PySem.W.Frag) (a:Addr):It:=
 ⟨fun i H=>∃xs x,aj K H a xs/\xs[i]? = some x,fun i H x H'=>H'=H /\ ∀xs,aj K H a xs->xs[i]? = some x,fun i H=>∃xs,aj K H a xs/\xs.length<=i⟩
def nh (K:PySem.W.Frag) (a:Addr):It:=
 ⟨fun i H=>∃xs x,aJ K H a xs/\xs[i]? = some x,fun i H x H'=>H'=H /\ ∀xs,aJ K H a xs->xs[i]? = some x,fun i H=>∃xs,aJ K H a xs/\xs.length<=i⟩
def qH (lo:Int) (n:Nat):It:=⟨fun i _=>i < n,fun i H x H'=>H'=H/\x = .int (lo+i),fun i _=>n<=i⟩
theorem Vr {P:Program}{w:World}{K:PySem.W.Frag}{tg:Expr} (a it:Addr):Turn P w K tg (oO K a) [it] it (fun i h=>h.IsListIter it a i) where
 mem:=by simp
 obj:=fun i h st b hb=>by
  have e:b=it:=by simpa using hb
  subst e
  obtain⟨o,e,c,d⟩:=st
  exact⟨o,e,fun v z=>by rw[d]at z;cases z⟩
 keep:=fun i h h' st k=>st.at fun o e=>k it (by simp) o e
 item:=by
  intro X hP hw hK hc i pins s σ H E I hf st hg
  subst hP hw hK
  obtain⟨xs,x,hq,hx⟩:=hg
  obtain⟨its,rv,p,hz⟩:=I.list hq
  obtain⟨u,hu,ru⟩:=rv.get hx
  obtain⟨f0,f1,f2,f3,f4,f5⟩:=hf it (by simp)
  refine wpAny_pyNext_list_item st p.isList (x:=u) (by simpa using hu) fun h' fu sb=>?_
  have I1:Inv X pins σ H { s with heap:=h' }:=I.turned (t':=s.toks) (fun b o hb e=>(sb.2 b hb).trans e) f0 f1 f3 f4 f5
  obtain⟨o,e,c,d⟩:=id fu
  exact⟨u,rfl,vM (s:={ s with heap:=h' }) e c d (by decide) ⟨x,H,I1,ru,⟨rfl,fun ys hy=>by rw[I.vg hy hq];exact hx⟩,fu,fun b hb=>(hf b hb).1⟩⟩
 done:=by
  intro X hP hw hK hc i pins s σ H E I hf st hg
  subst hP hw hK
  obtain⟨xs,hq,hx⟩:=hg
  obtain⟨its,rv,p,hz⟩:=I.list hq
  obtain⟨f0,f1,f2,f3,f4,f5⟩:=hf it (by simp)
  have hl:=rv.length
  exact wpAny_pyNext_list_end (I.ok.hd hc) st p.isList (by simp;omega) fun h' eb=>⟨rfl,I.turned (t':=s.toks) (fun b o hb e=>eb b o hb e) f0 f1 f3 f4 f5⟩
 self:=fun _ _ _ _ _ st h=>wpAny_pyIter_listiter st h
theorem UX {P:Program}{w:World}{K:PySem.W.Frag}{tg:Expr} (a it:Addr):Turn P w K tg (nh K a) [it] it (fun i h=>h.IsTupleIter it a i) where
 mem:=by simp
 obj:=fun i h st b hb=>by
  have e:b=it:=by simpa using hb
  subst e
  obtain⟨o,e,c,d⟩:=st
  exact⟨o,e,fun v z=>by rw[d]at z;cases z⟩
 keep:=fun i h h' st k=>st.at fun o e=>k it (by simp) o e
 item:=by
  intro X hP hw hK hc i pins s σ H E I hf st hg
  subst hP hw hK
  obtain⟨xs,x,hq,hx⟩:=hg
  obtain⟨its,rv,p,hz⟩:=I.tuple hq
  obtain⟨u,hu,ru⟩:=rv.get hx
  obtain⟨f0,f1,f2,f3,f4,f5⟩:=hf it (by simp)
  refine wpAny_pyNext_tuple_item st (show s.heap.IsTuple a its.toArray from p) (x:=u) (by simpa using hu) fun h' fu sb=>?_
  have I1:Inv X pins σ H { s with heap:=h' }:=I.turned (t':=s.toks) (fun b o hb e=>(sb.2 b hb).trans e) f0 f1 f3 f4 f5
  obtain⟨o,e,c,d⟩:=id fu
  exact⟨u,rfl,vM (s:={ s with heap:=h' }) e c d (by decide) ⟨x,H,I1,ru,⟨rfl,fun ys hy=>by rw[I.Vq hy hq];exact hx⟩,fu,fun b hb=>(hf b hb).1⟩⟩
 done:=by
  intro X hP hw hK hc i pins s σ H E I hf st hg
  subst hP hw hK
  obtain⟨xs,hq,hx⟩:=hg
  obtain⟨its,rv,p,hz⟩:=I.tuple hq
  obtain⟨f0,f1,f2,f3,f4,f5⟩:=hf it (by simp)
  have hl:=rv.length
  exact wpAny_pyNext_tuple_end (I.ok.hd hc) st (show s.heap.IsTuple a its.toArray from p) (by simp;omega) fun h' eb=>⟨rfl,I.turned (t':=s.toks) (fun b o hb e=>eb b o hb e) f0 f1 f3 f4 f5⟩
 self:=fun _ _ _ _ _ st h=>wpAny_pyIter_tupleiter st h
theorem UY {P:Program}{w:World}{K:PySem.W.Frag}{tg:Expr} (it:Addr) (lo:Int) (n:Nat):Turn P w K tg (qH lo n) [it] it (fun i h=>IsRangeIter h it (lo+(i:Nat) * 1) ((n:Int) - (i:Nat)) 1) where
 mem:=by simp
 obj:=fun i h st b hb=>by
  have e:b=it:=by simpa using hb
  subst e
  exact⟨_,st,fun v z=>by
   have z':Data.fields _=Data.cell v:=z
   cases z'⟩
 keep:=fun i h h' st k=>k it (by simp) _ st
 item:=by
  intro X hP hw hK hc i pins s σ H E I hf st hg
  subst hP hw hK
  obtain⟨f0,f1,f2,f3,f4,f5⟩:=hf it (by simp)
  have W:=Walks.range (prog:=X.prog) (w:=X.w) (I.ok.hd hc) it lo 1 n
  refine W.item i s _ _ hg st fun v h' tk hv fu kk=>?_
  obtain⟨t,rfl⟩:=hv
  have I1:Inv X pins σ H { s with heap:=h',toks:=tk }:=I.turned (fun b o hb e=>kk b o (by simpa using hb) e) f0 f1 f3 f4 f5
  refine⟨_,rfl,vM (s:={ s with heap:=h',toks:=tk }) (n:= "range_iterator") fu rfl rfl (by decide) ⟨.int (lo+i),H,I1,⟨t,?_⟩,⟨rfl,rfl⟩,fu,fun b hb=>(hf b hb).1⟩⟩
  rw[Int.mul_one]
 done:=by
  intro X hP hw hK hc i pins s σ H E I hf st hg
  subst hP hw hK
  obtain⟨f0,f1,f2,f3,f4,f5⟩:=hf it (by simp)
  exact wpAny_pyNext_range_end (I.ok.hd hc) st (by have:n<=i:=hg;omega) fun h' eb=>⟨rfl,I.turned (t':=s.toks) (fun b o hb e=>eb b o hb e) f0 f1 f3 f4 f5⟩
 self:=fun _ _ _ _ _ st h=>wpAny_pyIter_rangeiter st h
end L2
namespace L2
open PySem PySem.Spec PyProof.Rows
section
variable {X : Cx} {tg : Expr}
def Ng (K:PySem.W.Frag) (tl:TE):TI:=fun σ H R=>tl σ H fun x H1=>∃a,x = .ref a/\(∃xs,aj K H1 a xs)/\R (oO K a) H1
def NR (K:PySem.W.Frag) (tl:TE):TI:=fun σ H R=>tl σ H fun x H1=>∃a,x = .ref a/\(∃xs,aJ K H1 a xs)/\R (nh K a) H1
theorem gG {l:Expr}{tl:TE} (hl:PE X l tl):PI X tg l (Ng X.K tl):=by
 intro pins s σ H R I h
 refine au (hl pins s σ H _ I h) fun v s1 ⟨x,H1,I1,r1,q1⟩=>?_
 obtain⟨a,e,⟨xs,hq⟩,q⟩:=q1
 subst e
 cases r1
 obtain⟨its,rv,p,hz⟩:=I1.list hq
 refine AD p.isList ?_
 refine⟨s1.heap.objs.size,[s1.heap.objs.size],_,_,H1,rfl,I1.kept (t':=s1.toks) fun b o e=>bj _ e,Vr a _,⟨_,dj _ rfl,rfl,rfl⟩,fun b hb=>?_,q⟩
 have e:b=s1.heap.objs.size:=by simpa using hb
 subst e
 exact I1.kr (aN _) (I1.ar.fresh (aN _))
theorem mr {l:Expr}{tl:TE} (hl:PE X l tl):PI X tg l (NR X.K tl):=by
 intro pins s σ H R I h
 refine au (hl pins s σ H _ I h) fun v s1 ⟨x,H1,I1,r1,q1⟩=>?_
 obtain⟨a,e,⟨xs,hq⟩,q⟩:=q1
 subst e
 cases r1
 obtain⟨its,rv,p,hz⟩:=I1.tuple hq
 refine wpAny_pyIter_tuple (show s1.heap.IsTuple a its.toArray from p) ?_
 refine⟨s1.heap.objs.size,[s1.heap.objs.size],_,_,H1,rfl,I1.kept (t':=s1.toks) fun b o e=>bj _ e,UX a _,⟨_,dj _ rfl,rfl,rfl⟩,fun b hb=>?_,q⟩
 have e:b=s1.heap.objs.size:=by simpa using hb
 subst e
 exact I1.kr (aN _) (I1.ar.fresh (aN _))
theorem V' {pins:List (Addr×Obj)}{σ:St}{H:Hp}{s:Shared}{R:It->Hp->Prop}{E:Value->Shared->Prop}{lo hi:Int}{t u v:Tok}{tk:Nat} (I:Inv X pins σ H s) (h1 : -(2 ^ 62)<=lo) (h2:lo < 2 ^ 62) (h3 : -(2 ^ 62)<=hi) (h4:hi < 2 ^ 62)
  (q:R (qH lo (hi - lo).toNat) H):wpAny (model X.prog X.w) X.A (pyIter (.ref s.heap.objs.size)) (PB X pins σ tg R) E { s with heap:=s.heap.push { cls:= .type "range", data:= .fields #[.int lo t,.int hi u,.int 1 v] },toks:=tk }:=by
 refine wpAny_pyIter_range (IsRange.new ..) (small_one h1 h2 h3 h4) ?_
 have I1:Inv X pins σ H { s with heap:=s.heap.push { cls:= .type "range", data:= .fields #[.int lo t,.int hi u,.int 1 v] },toks:=tk }:=I.kept fun b o e=>bj _ e
 refine⟨(s.heap.push { cls:= .type "range", data:= .fields #[.int lo t,.int hi u,.int 1 v] }).objs.size,[(s.heap.push { cls:= .type "range", data:= .fields #[.int lo t,.int hi u,.int 1 v] }).objs.size],_,_,H,rfl,
  I1.kept (t':=tk) fun b o e=>bj _ e,UY _ lo (hi - lo).toNat,?_,fun b hb=>?_,q⟩
 ·have e1:lo+((0:Nat):Int) * 1=lo:=by simp
  have e2:(((hi - lo).toNat:Nat):Int) - ((0:Nat):Int)=Builtin.Range.rangeSize lo hi 1:=by rw[rangeSize_one];split <;> omega
  show IsRangeIter _ _ (lo+((0:Nat):Int) * 1) ((((hi - lo).toNat:Nat):Int) - ((0:Nat):Int)) 1
  rw[e1,e2]
  exact dj _ rfl
 ·have e:b=(s.heap.push { cls:= .type "range", data:= .fields #[.int lo t,.int hi u,.int 1 v] }).objs.size:=by simpa using hb
  subst e
  exact I1.kr (aN _) (I1.ar.fresh (aN _))
def Y0 (ta:TA):TI:=fun σ H R=>ta σ H fun vs H1=>∃j:Int,vs = [.int j] /\ -(2 ^ 62)<=j/\j < 2 ^ 62/\R (qH 0 j.toNat) H1
theorem nT {a:Expr}{ta:TA}{p pos:Pos} (hg:Gl X "range") (hm:X.mg "range" = none) (ha:PA X [a] ta) (hs:starEach [a] X.env = [(false,eval a X.env)]:=by rfl):PI X tg (.Call (.Name "range" p) [a] [] pos) (Y0 ta):=by
 intro pins s σ H R I h
 refine Call_ (pZ I hg hm boot_range (AE (au (ha pos pins s σ H _ I h) fun us s1 ⟨vs,H1,I1,r1,q1⟩=>?_) hs rfl))
 obtain⟨j,e,q1,q2,q⟩:=q1
 subst e
 cases r1 with
 | cons r rr =>
  cases rr
  obtain⟨t,rfl⟩:=r
  exact call_range_1 (V' I1 (by omega) (by omega) q1 q2 (by simpa using q))
def Z' (wi:TI) (g:TG) (tb:TS):TS:=fun D σ H=>wi σ H fun J H1=>∃W:Nat->Nat->St->Hp->Prop,(∃m,W 0 m σ H1) /\ ∀i m σ H,W i m σ H ->
 (J.stop i H/\D.nx σ H)\/(J.go i H /\ ∃N:St->Hp->Prop,(∀aH H',N aH H' -> ∃m',m' < m/\W (i+1) m' aH H') /\ ∀x H',J.ng i H x H'->g x σ H' fun fw H2=>tb { D with nx:=N,ct:=N,bk:=D.nx } fw H2)
def sJ (fp:List Addr) (h:Heap):List (Addr×Obj):=fp.filterMap fun b=>(h.get? b).map fun o=>(b,o)
theorem rR {fp:List Addr}{h:Heap}{b:Addr}{o:Obj} (hb:b∈fp) (e:h.get? b=some o):(b,o)∈sJ fp h:=pG.mpr ⟨b,hb,by rw[e];rfl⟩
theorem Vs {fp:List Addr}{h:Heap}{p:Addr×Obj} (hp:p∈sJ fp h):p.1∈fp/\h.get? p.1=some p.2:=by
 obtain⟨b,hb,e⟩:=pG.mp hp
 cases q:h.get? b with
 | none=>rw[q]at e;cases e
 | some o =>
  rw[q]at e
  have e':(b,o)=p:=gF e
  subst e'
  exact⟨hb,q⟩
theorem Inv.pinned {pins:List (Addr×Obj)}{σ:St}{H:Hp}{s:Shared}{fp:List Addr} (I:Inv X pins σ H s) (hf:∀b∈fp,fh X pins H b) (ho:∀b∈fp,∃o,s.heap.get? b=some o /\ ∀v,o.data ≠ .cell v):Inv X (pins++sJ fp s.heap) σ H s:=
 I.Mg fun p hp=>(dk.mp hp).elim (fun z=>I.pin p (eU _ z)) fun z=>by
  obtain⟨hb,e⟩:=Vs z
  obtain⟨f0,f1,f2,_⟩:=hf p.1 hb
  obtain⟨o,e',d⟩:=ho p.1 hb
  rw[e]at e';cases e'
  exact⟨e,f0,f1,f2,d⟩
theorem Inv.vi {pins pl:List (Addr×Obj)}{σ:St}{H:Hp}{s:Shared} (I:Inv X (pins++pl) σ H s):Inv X pins σ H s:=I.Mg fun p hp=>I.pin p (eU _ (jf _ hp))
theorem jr {iter:Expr}{body:List Stmt}{wi:TI}{g:TG}{tb:TS}{pos:Pos} (hp:PassesOwn (model X.prog X.w) X.A X.env X.xe) (hc:X.calm=true) (hi:PI X tg iter wi) (hg:PG X tg g) (hb:gg X body tb)
  (hs:∀x,foldedSetIterable iter X.env x=pure x:=by intro _;rfl):PS X (.For tg iter body [] pos) (Z' wi g tb):=by
 intro pins s σ H D I h
 refine wpAny_For (au (hi pins s σ H _ I h) fun v s1 h1=>au h1 fun qG s2 h2=>?_) hs
 obtain⟨it,fp,tn,J,H2,e,I2,T,gX,f2,W,⟨m0,w0⟩,turn⟩:=h2
 subst e
 have ku:∀ {H':Hp},(∀b∈fp,H' b=none) -> ∀b∈fp,fh X pins H' b:=fun hn b hb=>⟨hn b hb,(f2 b hb).2⟩
 refine codeAny_forLoop_any (fun n s'=>∃i aH H',Inv X pins aH H' s'/\tn i s'.heap/\(∀b∈fp,H' b=none)/\W i n aH H') ?_ m0 ⟨0,σ,H2,I2,gX,fun b hb=>(f2 b hb).1,w0⟩
 rintro n s3 ⟨i,kX,H3,I3,oP,PD,w3⟩
 rcases turn i n kX H3 w3 with⟨stop,qn⟩|⟨go,N,hN,step⟩
 ·refine uS hp (au (T.done X rfl rfl rfl hc i pins s3 kX H3 X.xe I3 (ku PD) oP stop) fun r s4 ⟨hr,I4⟩=>?_)
  subst hr
  exact x4 ⟨kX,H3,I4,qn⟩
 ·refine uS hp (au (T.item X rfl rfl rfl hc i pins s3 kX H3 X.xe I3 (ku PD) oP go) fun r s4 ⟨u,hr,h4⟩=>?_)
  subst hr
  refine uS hp (au h4 fun _ s5 ⟨x,H5,I5,r5,y5,nj,qI⟩=>?_)
  have I5':=I5.pinned (ku qI) (T.obj _ _ nj)
  refine uS hp (au (hg _ s5 kX H5 x u _ I5' r5 (step x H5 y5)) fun _ s6 ⟨σ6,H6,I6,q6⟩=>?_)
  refine uS hp (au (hb _ s6 σ6 H6 _ I6 q6) fun f s7 q7=>?_)
  have again:∀ {iN:St}{H7:Hp},Inv X (pins++sJ fp s5.heap) iN H7 s7->N iN H7 -> ∃m,m < n /\ ∃i aH H',Inv X pins aH H' s7/\tn i s7.heap/\(∀b∈fp,H' b=none)/\W i m aH H':=fun {iN H7} I7 n7=>by
   obtain⟨m',hm,w7⟩:=hN iN H7 n7
   refine⟨m',hm,i+1,iN,H7,I7.vi,T.keep _ _ _ nj fun b hb o e=>(I7.pin (b,o) (eU _ (eU _ (rR hb e)))).1,fun b hb=>?_,w7⟩
   obtain⟨o,e,d⟩:=T.obj _ _ nj b hb
   exact(I7.pin (b,o) (eU _ (eU _ (rR hb e)))).2.1
  cases f with
  | next=>obtain⟨iN,H7,I7,n7⟩:=q7;exact again I7 n7
  | cont=>obtain⟨iN,H7,I7,n7⟩:=q7;exact again I7 n7
  | brk=>obtain⟨iN,H7,I7,q7⟩:=q7;exact⟨iN,H7,I7.vi,q7⟩
  | ret v=>obtain⟨x7,iN,H7,I7,r7,q7⟩:=q7;exact⟨x7,iN,H7,I7.vi,r7,q7⟩
end
theorem yA {K:PySem.W.Frag}{a:Addr}{xs:List V}{g:TG}{tb:TS}{D:Ends}{σ:St}{H:Hp} (Pv:Nat->St->Hp->Prop) (h0:Pv 0 σ H) (hl:∀i σ H,i<=xs.length->Pv i σ H->aj K H a xs)
  (hs:∀i x σ H,xs[i]? = some x->Pv i σ H->g x σ H fun fw H2=>tb { D with nx:=Pv (i+1),ct:=Pv (i+1),bk:=D.nx } fw H2) (hd:∀σ H,Pv xs.length σ H->D.nx σ H) :
  ∃W:Nat->Nat->St->Hp->Prop,(∃m,W 0 m σ H) /\ ∀i m σ H,W i m σ H ->
   ((oO K a).stop i H/\D.nx σ H)\/((oO K a).go i H /\ ∃N:St->Hp->Prop,(∀aH H',N aH H' -> ∃m',m' < m/\W (i+1) m' aH H') /\ ∀x H',(oO K a).ng i H x H'->g x σ H' fun fw H2=>tb { D with nx:=N,ct:=N,bk:=D.nx } fw H2):=by
 refine⟨fun i m σ H=>m=xs.length - i/\i<=xs.length/\Pv i σ H,⟨xs.length,by simp,a4 _,h0⟩,?_⟩
 rintro i m σ H ⟨rfl,hi,p⟩
 have q:=hl i σ H hi p
 by_cases aS:i < xs.length
 ·refine .inr ⟨⟨xs,xs[i],q,by simp[aS]⟩,Pv (i+1),fun aH H' p'=>⟨xs.length - (i+1),by omega,rfl,aS,p'⟩,fun x H' y=>?_⟩
  obtain⟨e,y⟩:=y
  subst e
  exact hs i x σ _ (y xs q) p
 ·have e:i=xs.length:=by omega
  subst e
  exact .inl ⟨⟨xs,q,aN _⟩,hd σ H p⟩
theorem W8 {K:PySem.W.Frag}{a:Addr}{xs:List V}{g:TG}{tb:TS}{D:Ends}{σ:St}{H:Hp} (Pv:Nat->St->Hp->Prop) (h0:Pv 0 σ H) (hl:∀i σ H,i<=xs.length->Pv i σ H->aJ K H a xs)
  (hs:∀i x σ H,xs[i]? = some x->Pv i σ H->g x σ H fun fw H2=>tb { D with nx:=Pv (i+1),ct:=Pv (i+1),bk:=D.nx } fw H2) (hd:∀σ H,Pv xs.length σ H->D.nx σ H) :
  ∃W:Nat->Nat->St->Hp->Prop,(∃m,W 0 m σ H) /\ ∀i m σ H,W i m σ H ->
   ((nh K a).stop i H/\D.nx σ H)\/((nh K a).go i H /\ ∃N:St->Hp->Prop,(∀aH H',N aH H' -> ∃m',m' < m/\W (i+1) m' aH H') /\ ∀x H',(nh K a).ng i H x H'->g x σ H' fun fw H2=>tb { D with nx:=N,ct:=N,bk:=D.nx } fw H2):=by
 refine⟨fun i m σ H=>m=xs.length - i/\i<=xs.length/\Pv i σ H,⟨xs.length,by simp,a4 _,h0⟩,?_⟩
 rintro i m σ H ⟨rfl,hi,p⟩
 have q:=hl i σ H hi p
 by_cases aS:i < xs.length
 ·refine .inr ⟨⟨xs,xs[i],q,by simp[aS]⟩,Pv (i+1),fun aH H' p'=>⟨xs.length - (i+1),by omega,rfl,aS,p'⟩,fun x H' y=>?_⟩
  obtain⟨e,y⟩:=y
  subst e
  exact hs i x σ _ (y xs q) p
 ·have e:i=xs.length:=by omega
  subst e
  exact .inl ⟨⟨xs,q,aN _⟩,hd σ H p⟩
theorem rV {lo:Int}{n:Nat}{g:TG}{tb:TS}{D:Ends}{σ:St}{H:Hp} (Pv:Nat->St->Hp->Prop) (h0:Pv 0 σ H)
  (hs:∀i σ H,i < n->Pv i σ H->g (.int (lo+i)) σ H fun fw H2=>tb { D with nx:=Pv (i+1),ct:=Pv (i+1),bk:=D.nx } fw H2) (hd:∀σ H,Pv n σ H->D.nx σ H) :
  ∃W:Nat->Nat->St->Hp->Prop,(∃m,W 0 m σ H) /\ ∀i m σ H,W i m σ H ->
   ((qH lo n).stop i H/\D.nx σ H)\/((qH lo n).go i H /\ ∃N:St->Hp->Prop,(∀aH H',N aH H' -> ∃m',m' < m/\W (i+1) m' aH H') /\ ∀x H',(qH lo n).ng i H x H'->g x σ H' fun fw H2=>tb { D with nx:=N,ct:=N,bk:=D.nx } fw H2):=by
 refine⟨fun i m σ H=>m=n - i/\i<=n/\Pv i σ H,⟨n,by simp,a4 _,h0⟩,?_⟩
 rintro i m σ H ⟨rfl,hi,p⟩
 by_cases aS:i < n
 ·refine .inr ⟨aS,Pv (i+1),fun aH H' p'=>⟨n - (i+1),by omega,rfl,aS,p'⟩,fun x H' y=>?_⟩
  obtain⟨e,y⟩:=y
  subst e y
  exact hs i σ _ aS p
 ·have e:i=n:=by omega
  subst e
  exact .inl ⟨aN _,hd σ H p⟩
end L2
namespace L2
open PySem PySem.Spec PyProof.Rows
abbrev R2:=V->V->Hp->VK->Prop
def cA (X:Cx) (f:Value->Value->Sem Value) (r:R2):Prop:=
 ∀ (pins:List (Addr×Obj)) (s:Shared) (σ:St) (H:Hp) (x y:V) (v u:Value) (Q:VK),Inv X pins σ H s->RelV x v->RelV y u->r x y H Q ->
  wpAny (model X.prog X.w) X.A (f v u) (EP X pins σ Q) X.xe s
def FT (X:Cx) (f:Value->Sem Value) (r:V->Hp->VK->Prop):Prop:=
 ∀ (pins:List (Addr×Obj)) (s:Shared) (σ:St) (H:Hp) (x:V) (v:Value) (Q:VK),Inv X pins σ H s->RelV x v->r x H Q ->
  wpAny (model X.prog X.w) X.A (f v) (EP X pins σ Q) X.xe s
def df (X:Cx) (f:Value) (r:List V->Hp->VK->Prop):Prop:=
 ∀ (pins:List (Addr×Obj)) (s:Shared) (σ:St) (H:Hp) (xs:List V) (us:List Value) (Q:VK),Inv X pins σ H s->Vals xs us->r xs H Q ->
  wpAny (model X.prog X.w) X.A (call f us) (EP X pins σ Q) X.xe s
def aaa (X:Cx) (r:V->Hp->(Bool->Hp->Prop)->Prop):Prop:=
 ∀ (pins:List (Addr×Obj)) (s:Shared) (σ:St) (H:Hp) (x:V) (v:Value) (Q:Bool->Hp->Prop),Inv X pins σ H s->RelV x v->r x H Q ->
  wpAny (model X.prog X.w) X.A (truthy v) (TP X pins σ Q) X.xe s
def uf (r:R2) (ta tb:TE):TE:=fun σ H Q=>ta σ H fun x H1=>tb σ H1 fun y H2=>r x y H2 Q
def tUn (r:V->Hp->VK->Prop) (ta:TE):TE:=fun σ H Q=>ta σ H fun x H1=>r x H1 Q
def rI (C:Int->Int->Prop) (g:Int->Int->V):R2:=fun x y H Q=>∃i j,x = .int i/\y = .int j/\C i j/\Q (g i j) H
def qJ (g:Int->Int->V):R2:=fun x y H Q=>∃i j,x = .int i/\y = .int j/\Q (g i j) H
def rU (g:Int->V):V->Hp->VK->Prop:=fun x H Q=>∃i,x = .int i/\Q (g i) H
section
variable {X : Cx} {a b c : Expr} {ta tb tc : TE} {pos : Pos}
theorem C1 (ha:PE X a ta) (hb:PE X b tb) {pins:List (Addr×Obj)}{s:Shared}{σ:St}{H:Hp}{R:V->V->Hp->Prop} (I:Inv X pins σ H s)
  (h:ta σ H fun x H1=>tb σ H1 fun y H2=>R x y H2) {Q:Value->Shared->Prop}{f:Value->Value->Sem Value}
  (hf:∀v u s2 x y H2,Inv X pins σ H2 s2->RelV x v->RelV y u->R x y H2->wpAny (model X.prog X.w) X.A (f v u) Q X.xe s2) :
  wpAny (model X.prog X.w) X.A (eval a X.env) (fun v aY=>wpAny (model X.prog X.w) X.A (eval b X.env) (fun u kq=>wpAny (model X.prog X.w) X.A (f v u) Q X.xe kq) X.xe aY) X.xe s:=by
 refine au (ha pins s σ H _ I h) fun v s1 ⟨x,H1,I1,r1,q1⟩=>?_
 refine au (hb pins s1 σ H1 _ I1 q1) fun u s2 ⟨y,H2,I2,r2,q2⟩=>?_
 exact hf v u s2 x y H2 I2 r1 r2 q2
theorem cH {op:Operator}{r:R2} (ho:cA X (binaryOp op) r) (ha:PE X a ta) (hb:PE X b tb):PE X (.BinOp a op b pos) (uf r ta tb):=by
 intro pins s σ H Q I h
 exact wpAny_BinOp (C1 ha hb I h fun v u s2 x y H2 I2 rx ry q=>ho pins s2 σ H2 x y v u Q I2 rx ry q)
theorem Cy {op:UnaryOp}{r:V->Hp->VK->Prop} (ho:FT X (unaryOp op) r) (ha:PE X a ta):PE X (.UnaryOp op a pos) (tUn r ta):=by
 intro pins s σ H Q I h
 exact UnaryOp_ (au (ha pins s σ H _ I h) fun v s1 ⟨x,H1,I1,r1,q1⟩=>ho pins s1 σ H1 x v Q I1 r1 q1)
theorem zA {f:Value->Value->Sem Value}{C:Int->Int->Prop}{g:Int->Int->Int}
  (rule:∀ (i j:Int) (t u:Tok) (s:Shared) (Q:Value->Shared->Prop) (E:Value->Shared->Prop),C i j->Q (.int (g i j) s.toks) { s with toks:=s.toks+1 }->wpAny (model X.prog X.w) X.A (f (.int i t) (.int j u)) Q E s) :
  cA X f (rI C fun i j=>.int (g i j)):=by
 intro pins s σ H x y v u Q I rx ry h
 obtain⟨i,j,rfl,rfl,hc,q⟩:=h
 obtain⟨t,rfl⟩:=rx
 obtain⟨t',rfl⟩:=ry
 exact rule i j t t' s _ _ hc ⟨.int (g i j),H,I.tok _,⟨_,rfl⟩,q⟩
theorem NS {f:Value->Value->Sem Value}{g:Int->Int->Int}
  (rule:∀ (i j:Int) (t u:Tok) (s:Shared) (Q:Value->Shared->Prop) (E:Value->Shared->Prop),Q (.int (g i j) s.toks) { s with toks:=s.toks+1 }->wpAny (model X.prog X.w) X.A (f (.int i t) (.int j u)) Q E s) :
  cA X f (qJ fun i j=>.int (g i j)):=by
 intro pins s σ H x y v u Q I rx ry h
 obtain⟨i,j,rfl,rfl,q⟩:=h
 obtain⟨t,rfl⟩:=rx
 obtain⟨t',rfl⟩:=ry
 exact rule i j t t' s _ _ ⟨.int (g i j),H,I.tok _,⟨_,rfl⟩,q⟩
theorem C3 {f:Value->Value->Sem Value}{g:Int->Int->Bool}
  (rule:∀ (i j:Int) (t u:Tok) (s:Shared) (Q:Value->Shared->Prop) (E:Value->Shared->Prop),Q (.bool (g i j)) s->wpAny (model X.prog X.w) X.A (f (.int i t) (.int j u)) Q E s) :
  cA X f (qJ fun i j=>.bl (g i j)):=by
 intro pins s σ H x y v u Q I rx ry h
 obtain⟨i,j,rfl,rfl,q⟩:=h
 obtain⟨t,rfl⟩:=rx
 obtain⟨t',rfl⟩:=ry
 exact rule i j t t' s _ _ ⟨.bl (g i j),H,I,rfl,q⟩
def aab (i j:Int):Prop:=0 < j/\j < 1073741824
def aac (i j:Int):Prop:=0<=j/\j<=1000000/\i.natAbs < 2 ^ 64
def C4 (i j:Int):Prop:=(-(2 ^ 64) < i/\i < 2 ^ 64)\/(-(2 ^ 64) < j/\j < 2 ^ 64)
theorem C4.ok {i j:Int} (h:C4 i j):IntMulOk i j:=by
 rcases h with⟨h1,h2⟩|⟨h1,h2⟩
 ·exact .of_left (intBits_le_64 h1 h2)
 ·exact .of_right (intBits_le_64 h1 h2)
theorem p9:cA X (binaryOp .Add) (qJ fun i j=>.int (i+j)):=NS fun _ _ _ _ _ _ _ q=>add_int q
theorem MW:cA X (binaryOp .Sub) (qJ fun i j=>.int (i - j)):=NS fun _ _ _ _ _ _ _ q=>sub_int q
theorem Cg:cA X (binaryOp .Mult) (rI C4 fun i j=>.int (i * j)):=zA fun _ _ _ _ _ _ _ hc q=>mul_int q hc.ok
theorem Mi:cA X (binaryOp .FloorDiv) (rI aab fun i j=>.int (i / j)):=zA fun i j _ _ _ _ _ hc q=>by
 have h1:(0:Int) < j:=hc.1
 have h2:j < 1073741824:=hc.2
 exact floordiv_int (by omega) (by rw[Int.fdiv_eq_ediv_of_nonneg i (by omega)];exact q) (.inl (PyProof.noPylong_small (by omega)))
theorem qa:cA X (binaryOp .Mod) (rI (fun _ j=>0 < j) fun i j=>.int (i % j)):=zA fun i j _ _ _ _ _ hc q=>by
 have h1:(0:Int) < j:=hc
 exact mod_int' (by omega) (by rw[Int.fmod_eq_emod_of_nonneg i (by omega)];exact q)
theorem Yf:cA X (binaryOp .Pow) (rI aac fun i j=>.int (i ^ j.toNat)):=zA fun _ _ _ _ _ _ _ hc q=>pow_int_small hc.1 hc.2.1 hc.2.2 q
theorem unI {f:Value->Sem Value}{g:Int->Int}
  (rule:∀ (i:Int) (t:Tok) (s:Shared) (Q:Value->Shared->Prop) (E:Value->Shared->Prop),Q (.int (g i) s.toks) { s with toks:=s.toks+1 }->wpAny (model X.prog X.w) X.A (f (.int i t)) Q E s) :
  FT X f (rU fun i=>.int (g i)):=by
 intro pins s σ H x v Q I rx h
 obtain⟨i,rfl,q⟩:=h
 obtain⟨t,rfl⟩:=rx
 exact rule i t s _ _ ⟨.int (g i),H,I.tok _,⟨_,rfl⟩,q⟩
theorem Ci:FT X (unaryOp .USub) (rU fun i=>.int (-i)):=unI fun _ _ _ _ _ q=>neg_int q
end
def NT:V->V->Bool
 | .aD,.aD=>true | .aD,.int _=>true | .int _,.aD=>true | .aD,.bl _=>true | .bl _,.aD=>true | .aD,.str _=>true | .str _,.aD=>true
 | .int _,.int _=>true | .bl _,.bl _=>true | .str _,.str _=>true | .i7 _,.i7 _=>true
 | .int _,.str _=>true | .str _,.int _=>true | .bl _,.str _=>true | .str _,.bl _=>true
 | _,_=>false
def rEq:R2:=fun x y H Q=>NT x y=true/\Q (.bl (decide (x=y))) H
def rNe:R2:=fun x y H Q=>NT x y=true/\Q (.bl (!decide (x=y))) H
theorem Mj {i j:Int}:decide (V.int i=V.int j)=(i==j):=by
 rw[rD]
 simp
theorem MX {i j:Bool}:decide (V.bl i=V.bl j)=(i==j):=by
 rw[rD]
 simp
theorem Mk {i j:Str}:decide (V.str i=V.str j)=(i==j):=by
 rw[rD]
 simp
theorem Ml {i j:Array UInt8}:decide (V.i7 i=V.i7 j)=(i.toList==j.toList):=by
 rw[rD]
 cases i
 cases j
 simp
section
variable {X : Cx} {a b c : Expr} {ta tb tc : TE} {pos : Pos}
theorem cF {pins:List (Addr×Obj)}{σ:St}{H:Hp}{s:Shared}{Q:VK}{k k':Bool} (I:Inv X pins σ H s) (q:Q (.bl k) H) (e:k=k'):EP X pins σ Q (.bool k') s:=by
 subst e
 exact⟨.bl k,H,I,rfl,q⟩
theorem Nh:cA X (compareOp .Eq) rEq:=by
 intro pins s σ H x y v u Q I rx ry h
 obtain⟨hs,q⟩:=h
 cases x with
 | aD =>
  cases rx
  cases y with
  | aD=>cases ry;exact PySem.EqNone.eq_none_none (cF I q (by simp))
  | bl j=>cases ry;exact PySem.EqNone.eq_none_bool (cF I q (by simp))
  | int j=>obtain⟨t',rfl⟩:=ry;exact PySem.EqNone.eq_none_int (cF I q (by simp))
  | str j=>obtain⟨t',rfl⟩:=ry;exact PySem.EqNone.eq_none_str (cF I q (by simp))
  | _=>exact absurd (show false=true from hs) cU
 | bl i =>
  cases rx
  cases y with
  | aD=>cases ry;exact PySem.EqNone.eq_bool_none (cF I q (by simp))
  | bl j=>cases ry;exact eq_bool (cF I q MX)
  | str j=>obtain⟨t',rfl⟩:=ry;exact PySem.EqMixed.eq_bool_str (cF I q (by simp))
  | _=>exact absurd (show false=true from hs) cU
 | int i =>
  obtain⟨t,rfl⟩:=rx
  cases y with
  | aD=>cases ry;exact PySem.EqNone.eq_int_none (cF I q (by simp))
  | int j=>obtain⟨t',rfl⟩:=ry;exact eq_int (cF I q Mj)
  | str j=>obtain⟨t',rfl⟩:=ry;exact PySem.EqMixed.eq_int_str (cF I q (by simp))
  | _=>exact absurd (show false=true from hs) cU
 | str i =>
  obtain⟨t,rfl⟩:=rx
  cases y with
  | aD=>cases ry;exact PySem.EqNone.eq_str_none (cF I q (by simp))
  | bl j=>cases ry;exact PySem.EqMixed.eq_str_bool (cF I q (by simp))
  | int j=>obtain⟨t',rfl⟩:=ry;exact PySem.EqMixed.eq_str_int (cF I q (by simp))
  | str j=>obtain⟨t',rfl⟩:=ry;exact eq_str (cF I q Mk)
  | _=>exact absurd (show false=true from hs) cU
 | i7 i =>
  obtain⟨t,rfl⟩:=rx
  cases y with
  | i7 j=>obtain⟨t',rfl⟩:=ry;exact PySem.W.eq_bytes (cF I q Ml)
  | _=>exact absurd (show false=true from hs) cU
 | _=>cases y <;> exact absurd (show false=true from hs) cU
theorem vN:cA X (compareOp .NotEq) rNe:=by
 intro pins s σ H x y v u Q I rx ry h
 obtain⟨hs,q⟩:=h
 cases x with
 | aD =>
  cases rx
  cases y with
  | aD=>cases ry;exact PySem.EqNone.ne_none_none (cF I q (by simp))
  | bl j=>cases ry;exact PySem.EqNone.ne_none_bool (cF I q (by simp))
  | int j=>obtain⟨t',rfl⟩:=ry;exact PySem.EqNone.ne_none_int (cF I q (by simp))
  | str j=>obtain⟨t',rfl⟩:=ry;exact PySem.EqNone.ne_none_str (cF I q (by simp))
  | _=>exact absurd (show false=true from hs) cU
 | bl i =>
  cases rx
  cases y with
  | aD=>cases ry;exact PySem.EqNone.ne_bool_none (cF I q (by simp))
  | bl j=>cases ry;exact ne_bool (cF I q (eT not MX))
  | str j=>obtain⟨t',rfl⟩:=ry;exact PySem.EqMixed.ne_bool_str (cF I q (by simp))
  | _=>exact absurd (show false=true from hs) cU
 | int i =>
  obtain⟨t,rfl⟩:=rx
  cases y with
  | aD=>cases ry;exact PySem.EqNone.ne_int_none (cF I q (by simp))
  | int j=>obtain⟨t',rfl⟩:=ry;exact ne_int (cF I q (eT not Mj))
  | str j=>obtain⟨t',rfl⟩:=ry;exact PySem.EqMixed.ne_int_str (cF I q (by simp))
  | _=>exact absurd (show false=true from hs) cU
 | str i =>
  obtain⟨t,rfl⟩:=rx
  cases y with
  | aD=>cases ry;exact PySem.EqNone.ne_str_none (cF I q (by simp))
  | bl j=>cases ry;exact PySem.EqMixed.ne_str_bool (cF I q (by simp))
  | int j=>obtain⟨t',rfl⟩:=ry;exact PySem.EqMixed.ne_str_int (cF I q (by simp))
  | str j=>obtain⟨t',rfl⟩:=ry;exact ne_str (cF I q (eT not Mk))
  | _=>exact absurd (show false=true from hs) cU
 | i7 i =>
  obtain⟨t,rfl⟩:=rx
  cases y with
  | i7 j=>obtain⟨t',rfl⟩:=ry;exact PySem.W.ne_bytes (cF I q (eT not Ml))
  | _=>exact absurd (show false=true from hs) cU
 | _=>cases y <;> exact absurd (show false=true from hs) cU
theorem Ni:cA X (compareOp .Lt) (qJ fun i j=>.bl (decide (i < j))):=C3 fun _ _ _ _ _ _ _ q=>lt_int q
theorem Nj:cA X (compareOp .LtE) (qJ fun i j=>.bl (decide (i<=j))):=C3 fun _ _ _ _ _ _ _ q=>le_int q
theorem Nk:cA X (compareOp .Gt) (qJ fun i j=>.bl (decide (j < i))):=C3 fun _ _ _ _ _ _ _ q=>gt_int q
theorem vz:cA X (compareOp .Is) (fun x y H Q=>y = .aD/\Q (.bl (decide (x = .aD))) H):=by
 intro pins s σ H x y v u Q I rx ry h
 obtain⟨rfl,q⟩:=h
 cases ry
 refine is_none_gen (cF I q ?_)
 cases x <;> first
  | (cases rx;rfl)
  | (obtain⟨t,rfl⟩:=rx;rfl)
theorem W9:cA X (compareOp .IsNot) (fun x y H Q=>y = .aD/\Q (.bl (!decide (x = .aD))) H):=by
 intro pins s σ H x y v u Q I rx ry h
 obtain⟨rfl,q⟩:=h
 cases ry
 refine isnot_none_gen (cF I q ?_)
 cases x <;> first
  | (cases rx;rfl)
  | (obtain⟨t,rfl⟩:=rx;rfl)
theorem cP (b:Expr) {op:CmpOp} (h:op ≠ .In:=by decide) (h2:op ≠ .NotIn:=by decide):behindInMarks op b=false:=by
 have e1:(op==CmpOp.In)=false:=by cases op <;> first | rfl | exact absurd rfl h
 have e2:(op==CmpOp.NotIn)=false:=by cases op <;> first | rfl | exact absurd rfl h2
 cases b <;> simp[behindInMarks,e1,e2]
theorem ki {op:CmpOp}{r:R2} (ho:cA X (compareOp op) r) (ha:PE X a ta) (hb:PE X b tb) (hm:behindInMarks op b=false):PE X (.Compare a [op] [b] pos) (uf r ta tb):=by
 intro pins s σ H Q I h
 exact wpAny_Compare1 (C1 ha hb I h fun v u s2 x y H2 I2 rx ry q=>ho pins s2 σ H2 x y v u Q I2 rx ry q) hm
def Nl (t:TE):TT:=fun σ H Q=>t σ H fun x H'=>∃k,x = .bl k/\Q k H'
theorem cE {op:CmpOp}{r:R2} (ho:cA X (compareOp op) r) (ha:PE X a ta) (hb:PE X b tb) (hm:behindInMarks op b=false):PT X (.Compare a [op] [b] pos) (Nl (uf r ta tb)):=by
 intro pins s σ H Q I h
 refine wpAny_isTrue_Compare1 (au (ha pins s σ H _ I h) fun v s1 ⟨x,H1,I1,r1,q1⟩=>au (hb pins s1 σ H1 _ I1 q1) fun u s2 ⟨y,H2,I2,r2,q2⟩ =>
  au (ho pins s2 σ H2 x y v u _ I2 r1 r2 q2) fun c s3 ⟨z,H3,I3,r3,k,e,q3⟩=>?_) hm
 subst e
 cases r3
 exact lq ⟨H3,I3,q3⟩
def MY (r r':R2) (ta tb tc:TE):TE:=fun σ H Q=>ta σ H fun x H1=>tb σ H1 fun y H2=>r x y H2 fun z H3=>∃k,z = .bl k /\
 (if k=true then tc σ H3 fun w' H4=>r' y w' H4 Q else Q (.bl false) H3)
theorem Wa {op qK:CmpOp}{r r':R2} (ho:cA X (compareOp op) r) (gv:cA X (compareOp qK) r') (ha:PE X a ta) (hb:PE X b tb) (hc:PE X c tc)
  (hm:lastMarks [op,qK] [b,c]=false:=by with_unfolding_all rfl):PE X (.Compare a [op,qK] [b,c] pos) (MY r r' ta tb tc):=by
 intro pins s σ H Q I h
 refine Compare_chain (au (ha pins s σ H _ I h) fun v s1 ⟨x,H1,I1,r1,q1⟩=>chain_link (au (hb pins s1 σ H1 _ I1 q1) fun u s2 ⟨y,H2,I2,r2,q2⟩ =>
  au (ho pins s2 σ H2 x y v u _ I2 r1 r2 q2) fun d s3 ⟨z,H3,I3,r3,k,e,q3⟩=>?_)) hm
 subst e
 cases r3
 refine lq ?_
 cases k with
 | false=>exact ite_ff ⟨.bl false,H3,I3,rfl,q3⟩
 | true=>exact ite_tt (chain_last (au (hc pins s3 σ H3 _ I3 q3) fun w' s4 ⟨z',H4,I4,r4,q4⟩=>gv pins s4 σ H4 y z' u w' Q I4 r2 r4 q4))
theorem Wb {op qK:CmpOp}{r r':R2} (ho:cA X (compareOp op) r) (gv:cA X (compareOp qK) r') (ha:PE X a ta) (hb:PE X b tb) (hc:PE X c tc)
  (hm:lastMarks [op,qK] [b,c]=false:=by with_unfolding_all rfl):PT X (.Compare a [op,qK] [b,c] pos) (Nl (MY r r' ta tb tc)):=by
 intro pins s σ H Q I h
 refine isTrue_chain (au (ha pins s σ H _ I h) fun v s1 ⟨x,H1,I1,r1,q1⟩=>test_link (au (hb pins s1 σ H1 _ I1 q1) fun u s2 ⟨y,H2,I2,r2,q2⟩ =>
  au (ho pins s2 σ H2 x y v u _ I2 r1 r2 q2) fun d s3 ⟨z,H3,I3,r3,k,e,q3⟩=>?_)) hm
 subst e
 cases r3
 refine lq ?_
 cases k with
 | false =>
  obtain⟨k',e',q'⟩:=q3
  cases e'
  exact ite_ff ⟨H3,I3,q'⟩
 | true =>
  refine ite_tt (test_last (au (hc pins s3 σ H3 _ I3 q3) fun w' s4 ⟨z',H4,I4,r4,q4⟩=>au (gv pins s4 σ H4 y z' u w' _ I4 r2 r4 q4) fun d' s5 ⟨z2,H5,I5,r5,k2,e2,q5⟩=>?_))
  subst e2
  cases r5
  exact lq ⟨H5,I5,q5⟩
def C5 (K:PySem.W.Frag) (x:V) (H:Hp) (k:Bool):Prop:=
 match x with
 | .aD=>k=false
 | .bl b=>k=b
 | .int i=>k=(i != 0)
 | .str y=>y.length<=sizeLine/\k=((y.length:Int) != 0)
 | .i7 y=>y.size<=sizeLine/\k=((y.size:Int) != 0)
 | .ref p=>(∃xs,aj K H p xs/\k = !xs.isEmpty)\/(∃xs,aJ K H p xs/\k = !xs.isEmpty) \/ ∃kvs,H p=some (.dK kvs)/\k = !kvs.isEmpty
 | _=>False
theorem UZ {κ:Type}{kvs:List (κ×V)}{vs:List (κ×Value)} (r:KV kvs vs):(!vs.isEmpty) = !kvs.isEmpty:=by
 cases r <;> rfl
theorem Bd {xs:List V}{its:List Value} (r:Vals xs its):(!its.toArray.isEmpty) = !xs.isEmpty:=by
 cases r <;> simp
theorem qb:(sizeLine:Nat) < 2 ^ 63:=by rw[aI];decide
theorem Yg:aaa X (fun x H Q=>∃k,C5 X.K x H k/\Q k H):=by
 intro pins s σ H x v Q I rx h
 obtain⟨k,e,q⟩:=h
 have hl:=qb
 have hs:sizeLine=16777216:=aI
 cases x with
 | aD =>
  cases rx
  have e':k=false:=e
  subst e'
  exact truthy_none ⟨H,I,q⟩
 | bl b =>
  cases rx
  have e':k=b:=e
  subst e'
  exact lq ⟨H,I,q⟩
 | int i =>
  obtain⟨t,rfl⟩:=rx
  have e':k=(i != 0):=e
  subst e'
  exact PySem.P.truthy_int ⟨H,I,q⟩
 | str y =>
  obtain⟨t,rfl⟩:=rx
  obtain⟨hy,e'⟩:y.length<=sizeLine/\k=((y.length:Int) != 0):=e
  subst e'
  exact PySem.P.truthy_str (by omega) ⟨H,I.tok _,q⟩
 | i7 y =>
  obtain⟨t,rfl⟩:=rx
  obtain⟨hy,e'⟩:y.size<=sizeLine/\k=((y.size:Int) != 0):=e
  subst e'
  exact PySem.W.truthy_bytes (by omega) ⟨H,I.tok _,q⟩
 | ref p =>
  cases rx
  have e':(∃xs,aj X.K H p xs/\k = !xs.isEmpty)\/(∃xs,aJ X.K H p xs/\k = !xs.isEmpty) \/ ∃kvs,H p=some (.dK kvs)/\k = !kvs.isEmpty:=e
  rcases e' with⟨xs,hx,e'⟩|⟨xs,hx,e'⟩|⟨kvs,hx,e'⟩
  ·subst e'
   obtain⟨its,r,pl,hz⟩:=I.list hx
   have hlen:=r.length
   exact wpAny_truthy_list pl.isList (by simp only[cL];omega) ⟨H,I.tok _,by rw[Bd r];exact q⟩
  ·subst e'
   obtain⟨its,r,pl,hz⟩:=I.tuple hx
   have hlen:=r.length
   exact truthy_tuple pl (by simp only[cL];omega) ⟨H,I.tok _,by rw[Bd r];exact q⟩
  ·subst e'
   obtain⟨hz,hS,vs,r,m⟩:kvs.length<=sizeLine/\(p==sysModules)=false /\ ∃vs,KV kvs vs/\s.heap.DictOf (du X.prog X.w) p vs:=I.ar p _ hx
   have hlen:kvs.length=vs.length:=ll r
   exact wpAny_truthy_dict hS m (by omega) ⟨H,I.tok _,by rw[UZ r];exact q⟩
 | _=>exact(show False from e).elim
theorem pV (ha:PE X a ta) (he:∀whole,isTrue a X.env whole=(do let v <- whole;standAt a.pos;holding [v] (truthy v))) :
  PT X a (fun σ H Q=>ta σ H fun x H'=>∃k,C5 X.K x H' k/\Q k H'):=by
 intro pins s σ H Q I h
 exact isTrue_plain (au (ha pins s σ H _ I h) fun v s1 ⟨x,H1,I1,r1,q1⟩=>Yg pins s1 σ H1 x v Q I1 r1 q1) (he _)
theorem KG:cA X (binaryOp .Add) (fun x y H Q=>∃i j,x = .str i/\y = .str j/\i.length+j.length<=sizeLine/\Q (.str (i++j)) H):=by
 intro pins s σ H x y v u Q I rx ry h
 obtain⟨i,j,rfl,rfl,hz,q⟩:=h
 obtain⟨t,rfl⟩:=rx
 obtain⟨t',rfl⟩:=ry
 exact add_str (fun t' tk=>⟨.str (i++j),H,I.tok _,⟨_,rfl⟩,q⟩) hz
theorem vals1 {x:V}{us:List Value} (r:Vals [x] us):∃u,us = [u]/\RelV x u:=by
 cases r with
 | cons r1 r2=>cases r2;exact⟨_,rfl,r1⟩
theorem vals2 {x y:V}{us:List Value} (r:Vals [x,y] us):∃u w',us = [u,w']/\RelV x u/\RelV y w':=by
 cases r with
 | cons r1 r2 =>
  cases r2 with
  | cons r3 r4=>cases r4;exact⟨_,_,rfl,r1,r3⟩
theorem LJ:df X (.builtin "abs") (fun xs H Q=>∃i,xs = [.int i]/\Q (.int (if i < 0 then -i else i)) H):=by
 intro pins s σ H xs us Q I r h
 obtain⟨i,rfl,q⟩:=h
 obtain⟨u,rfl,t,rfl⟩:=vals1 r
 exact call_abs_int fun u tk=>⟨.int (if i < 0 then -i else i),H,I.tok _,⟨_,rfl⟩,q⟩
theorem K6 (hc:X.calm=true):df X (.builtin "max") (fun xs H Q=>∃i j,xs = [.int i,.int j]/\Q (.int (if j > i then j else i)) H):=by
 intro pins s σ H xs us Q I r h
 obtain⟨i,j,rfl,q⟩:=h
 obtain⟨u,w',rfl,⟨t,rfl⟩,⟨t',rfl⟩⟩:=vals2 r
 refine max_two_ints (I.ok.hd hc) fun h' tk k=>⟨_,H,I.kept k,?_,q⟩
 by_cases hj:j > i
 ·rw[aA hj,aA hj];exact⟨_,rfl⟩
 ·rw[aq hj,aq hj];exact⟨_,rfl⟩
theorem Br (hc:X.calm=true):df X (.builtin "min") (fun xs H Q=>∃i j,xs = [.int i,.int j]/\Q (.int (if j < i then j else i)) H):=by
 intro pins s σ H xs us Q I r h
 obtain⟨i,j,rfl,q⟩:=h
 obtain⟨u,w',rfl,⟨t,rfl⟩,⟨t',rfl⟩⟩:=vals2 r
 refine min_two_ints (I.ok.hd hc) fun h' tk k=>⟨_,H,I.kept k,?_,q⟩
 by_cases hj:j < i
 ·rw[aA hj,aA hj];exact⟨_,rfl⟩
 ·rw[aq hj,aq hj];exact⟨_,rfl⟩
end
end L2
namespace L2
open PySem PySem.Spec PyProof.Rows
structure C6 (h:Heap) (x dx C:Addr) (mA:Str->Option Value):Prop where
 obj:h.get? x=some (PySem.W.instObj C dx)
 ns:h.Ns1 dx mA
 ne:dx≠x
theorem rW {h:Heap}{dx:Addr}{mA:Str->Option Value} (n:h.Ns1 dx mA):∃od,h.get? dx=some od /\ ∀name,PySem.W.lookIn name od=some (mA name):=by
 obtain⟨o,es,ep,ho,hd,hk,_,hm⟩:=n
 refine⟨o,ho,fun name=>?_⟩
 have e:=hm name
 unfold nsFind findBy at e
 rw[<-Array.find?_toList]at e
 unfold PySem.W.lookIn
 rw[hd]
 dsimp only
 split
 ·rename_i y q
  rw[q]at e
  exact eT some e
 ·rename_i q
  rw[q]at e
  have a:es.toList.any (·.refKey)=false:=by
   rw[Tf]
   intro y hy
   obtain⟨z,t,lK⟩:=hk y (Array.mem_toList_iff.mp hy)
   simp[DictEntry.refKey,lK]
  have a' : ¬ es.toList.any (·.refKey)=true:=by rw[a];exact cU
  rw[aq a']
  exact eT some e
theorem C6.look {h:Heap}{x dx C:Addr}{mA:Str->Option Value} (I:C6 h x dx C mA):∃od,PySem.W.InstAt h x (PySem.W.instObj C dx) C (some od) /\ ∀name,PySem.W.lookIn name od=some (mA name):=
 let ⟨od,ho,hl⟩:=rW I.ns
 ⟨od,⟨I.obj,rfl,rfl,ho⟩,hl⟩
def ie (f:Str) (v:V):List (Str×V)->List (Str×V)
 | []=>[(f,v)]
 | (g,x)::r=>if g=f then (g,v)::r else (g,x)::ie f v r
theorem Kr (f g:Str) (v:V):∀fs:List (Str×V),(ie f v fs).lookup g=if g=f then some v else fs.lookup g
 | []=>by
  show List.lookup g [(f,v)]=_
  by_cases h:g=f
  ·have hb:(g==f)=true:=cS.mpr h
   simp only[List.lookup,hb,aA h]
  ·have hb:(g==f)=false:=nI.mpr h
   simp only[List.lookup,hb,aq h]
 | (k,x)::r=>by
  have ih:=Kr f g v r
  rw[show ie f v ((k,x)::r)=(if k=f then (k,v)::r else (k,x)::ie f v r) from rfl]
  by_cases hk:k=f
  ·rw[aA hk]
   by_cases h:g=k
   ·have hb:(g==k)=true:=cS.mpr h
    simp only[List.lookup,hb,aA (h.trans hk)]
   ·have hb:(g==k)=false:=nI.mpr h
    simp only[List.lookup,hb,aq (fun e:g=f=>h (e.trans hk.symm))]
  ·rw[aq hk]
   by_cases h:g=k
   ·have hb:(g==k)=true:=cS.mpr h
    simp only[List.lookup,hb,aq (fun e:g=f=>hk (h.symm.trans e))]
   ·have hb:(g==k)=false:=nI.mpr h
    simp only[List.lookup,hb]
    exact ih
theorem Bs (f:Str) (v:V):∀fs:List (Str×V),f∈(ie f v fs).map (·.1) /\ ∀g,g∈fs.map (·.1)->g∈(ie f v fs).map (·.1)
 | []=>⟨by simp[ie],fun g h=>by simp at h⟩
 | (k,x)::r=>by
  obtain⟨i1,i2⟩:=Bs f v r
  rw[show ie f v ((k,x)::r)=(if k=f then (k,v)::r else (k,x)::ie f v r) from rfl]
  by_cases hk:k=f
  ·rw[aA hk]
   subst hk
   exact⟨by simp,fun g h=>by simpa using h⟩
  ·rw[aq hk]
   refine⟨?_,fun g h=>?_⟩
   ·rw[cD]
    exact bU _ i1
   ·rw[cD]at h ⊢
    rcases bq.mp h with e | e
    ·exact bq.mpr (.inl e)
    ·exact bU _ (i2 g e)
theorem Ks (f:Str) (v:V):∀fs:List (Str×V),(ie f v fs).length<=fs.length+1
 | []=>by simp[ie]
 | (k,x)::r=>by
  have ih:=Ks f v r
  rw[show ie f v ((k,x)::r)=(if k=f then (k,v)::r else (k,x)::ie f v r) from rfl]
  by_cases hk:k=f
  ·rw[aA hk,dZ,dZ];omega
  ·rw[aq hk,dZ,dZ];omega
theorem gV.some_of {v:V}{o:Option Value} (r:gV (some v) o):∃u,o=some u/\RelV v u:=by
 cases o with
 | none=>exact(show False from r).elim
 | some u=>exact⟨u,rfl,r⟩
theorem Vt {v:V}{u:Value} (r:RelV v u):PySem.W.handedIn u=true:=by
 cases v with
 | aD=>cases (show u=Value.none from r);rfl
 | bl b=>cases (show u=Value.bool b from r);rfl
 | int i=>obtain⟨t,e⟩:=(show ∃t,u=Value.int i t from r);cases e;rfl
 | str x=>obtain⟨t,e⟩:=(show ∃t,u=Value.str x t from r);cases e;rfl
 | i7 b=>obtain⟨t,e⟩:=(show ∃t,u=Value.bytes b t from r);cases e;rfl
 | i8 b=>obtain⟨t,e⟩:=(show ∃t,u=Value.float b t from r);cases e;rfl
 | ref a=>cases (show u=Value.ref a from r);rfl
 | ty n=>cases (show u=Value.type n from r);rfl
section
variable {P : Program} {w : World} {H H' : Hp} {h h' : Heap} {a C dx : Addr} {fs fs' : List (Str × V)}
theorem W' (ar:cq P w H h) (e:H a=some (.ins C dx fs)):∃mA,C6 h a dx C mA/\(∀f,gV (fs.lookup f) (mA f))/\PySem.Within mA (fs.map (·.1))/\fs.length<=1000/\H dx=some (.own a):=by
 obtain⟨d,z,ne,ob,mA,n,r,q⟩:=(show bt P w H h a (.ins C dx fs) from ar a _ e)
 exact⟨mA,⟨ob,n,ne⟩,r,q,z,d⟩
end
structure FU (K:PySem.W.Frag) (C:Addr):Prop where
 pg:PySem.W.plainGet K C Str.empty=true
 hd:PySem.W.hasDictIn K C=true
 po:PySem.W.plainOver K C=true
 sa:PySem.W.findIn K (.ref C) "__setattr__" = some (some (.builtin "object.__setattr__"))
theorem FU.get {K:PySem.W.Frag}{C:Addr} (c:FU K C) (f:Str):PySem.W.plainGet K C f=true:=c.pg
section
variable {X : Cx} {pins : List (Addr × Obj)} {σ : St} {H : Hp} {s : Shared} {a C dx : Addr} {fs : List (Str × V)} {f : Str} {v : V} {A : Around} {E : Value -> Shared -> Prop}
theorem Xa {prog:Program}{w:World}{env:Env}{e:Expr}{f:Str}{pos:Pos}{s:Shared}{Q:Value->Shared->Prop} (hb:attributeBase e f env (eval e env)=eval e env)
  (h:wpAny (model prog w) A (eval e env) (fun o aY=>wpAny (model prog w) A (getAttr o f true) Q E aY) E s):wpAny (model prog w) A (eval (.Attribute e f pos) env) Q E s:=
 Attribute_any_ h (by rw[arm_eval_Attribute,hb])
end
section
variable {X : Cx} {pins : List (Addr × Obj)} {σ : St} {H : Hp} {s : Shared} {A : Around} {E : Value -> Shared -> Prop} {Q : Value -> Shared -> Prop} {c : Value} {b : Bool}
inductive jx (K:PySem.W.Frag) (H:Hp):V->Value->Prop where
 | aD:jx K H .aD (.type "NoneType")
 | bl (x:Bool):jx K H (.bl x) (.type "bool")
 | int (i:Int):jx K H (.int i) (.type "int")
 | str (x:Str):jx K H (.str x) (.type "str")
 | i8 (x:UInt64):jx K H (.i8 x) (.type "float")
 | lst {a:Addr}{xs:List V} (e:H a=some (.lst xs)):jx K H (.ref a) (.type "list")
 | ip {a:Addr}{o:Obj}{xs:List V} (e:H a=some (.ip o (.lst xs))):jx K H (.ref a) (.type "list")
 | tup {a:Addr}{xs:List V} (e:H a=some (.tup xs)):jx K H (.ref a) (.type "tuple")
 | dK {a:Addr}{kvs:List (Key×V)} (e:H a=some (.dK kvs)):jx K H (.ref a) (.type "dict")
 | dT {a:Addr}{kvs:List (List Key×V)} (e:H a=some (.dT kvs)):jx K H (.ref a) (.type "dict")
 | ins {a C dx:Addr}{fs:List (Str×V)} (e:H a=some (.ins C dx fs)) (cl:FU K C) (ha:PySem.W.findIn K (.ref C) "__class__" = some (some (.builtin "object.__class__")))
   (hn:PySem.W.specialIn K (.builtin "object.__class__") "__get__" = some (some (.builtin "getset_descriptor.__get__"))) (PF:PySem.W.takesIn K (.builtin "object.__class__")=some true)
   (hm:PySem.W.mroIn K C (.type "object")=some true):jx K H (.ref a) (.ref C)
theorem Vu {x:V}{u t:Value} (I:Inv X pins σ H s) (rx:RelV x u) (ty:jx X.K H x t) (e:PySem.W.kitOne X.K t c=some b) (h:∀tk,Q (.bool b) { s with toks:=tk }) :
  wpAny (model X.prog X.w) A (call (.builtin "isinstance") [u,c]) Q E s:=by
 cases ty with
 | aD=>cases (show u=Value.none from rx);exact mf PySem.W.kitx_none I.a7 True.intro e (fun z=>nomatch z) h
 | bl y=>cases (show u=Value.bool y from rx);exact mf PySem.W.kitx_bool I.a7 True.intro e (fun z=>nomatch z) h
 | int i=>obtain⟨t,q⟩:=(show ∃t,u=Value.int i t from rx);cases q;exact mf PySem.W.kitx_int I.a7 True.intro e (fun z=>nomatch z) h
 | str y=>obtain⟨t,q⟩:=(show ∃t,u=Value.str y t from rx);cases q;exact mf PySem.W.kitx_str I.a7 True.intro e (fun z=>nomatch z) h
 | i8 y=>obtain⟨t,q⟩:=(show ∃t,u=Value.float y t from rx);cases q;exact mf PySem.W.kitx_float I.a7 True.intro e (fun z=>nomatch z) h
 | @lst a xs ea =>
  cases (show u=Value.ref a from rx)
  obtain⟨_,_,n,_,h1⟩:=(show bt X.prog X.w H s.heap a (.lst xs) from I.ar a _ ea)
  exact mf PySem.W.kitx_list I.a7 ⟨_,h1,rfl⟩ e (fun z=>nomatch z) h
 | @ip a ob xs ea =>
  cases (show u=Value.ref a from rx)
  obtain⟨_,_,_,n,_,h1⟩:=(show bt X.prog X.w H s.heap a (.ip ob (.lst xs)) from I.ar a _ ea)
  exact mf PySem.W.kitx_list I.a7 ⟨_,h1,rfl⟩ e (fun z=>nomatch z) h
 | @tup a xs ea =>
  cases (show u=Value.ref a from rx)
  obtain⟨_,_,_,p⟩:=(show bt X.prog X.w H s.heap a (.tup xs) from I.ar a _ ea)
  obtain⟨o,h1,h2,_⟩:=p
  exact mf PySem.W.kitx_tuple I.a7 ⟨o,h1,h2⟩ e (fun z=>nomatch z) h
 | @dK a kvs ea =>
  cases (show u=Value.ref a from rx)
  obtain⟨_,_,vs,_,p⟩:=(show bt X.prog X.w H s.heap a (.dK kvs) from I.ar a _ ea)
  obtain⟨o,es,ep,h1,h2,_⟩:=p
  exact mf PySem.W.kitx_dict I.a7 ⟨o,h1,h2.1⟩ e (fun z=>nomatch z) h
 | @dT a kvs ea =>
  cases (show u=Value.ref a from rx)
  obtain⟨_,_,xs,_,o,es,ep,h1,h2,_⟩:=(show bt X.prog X.w H s.heap a (.dT kvs) from I.ar a _ ea)
  exact mf PySem.W.kitx_dict I.a7 ⟨o,h1,h2.1⟩ e (fun z=>nomatch z) h
 | @ins a C dx fs ea cl ha hn PF hm =>
  cases (show u=Value.ref a from rx)
  obtain⟨mA,O,_⟩:=W' I.ar ea
  obtain⟨od,J,_⟩:=O.look
  exact mf (PySem.W.kitx_own (cl.get _) cl.hd ha hn PF hm) I.a7 J e (fun z=>nomatch z) h
end
end L2
namespace L2
open PySem PySem.Spec PyProof.Rows
structure aT (k:Nat) (A:Around):Prop where
 hd:A.handled=none
 dp:A.depth+3 * k+5 < recursionLimit
 un:A.units+16 * k+200 < cLine
 gd:A.guards=some []
theorem aT.mono {j k:Nat}{A:Around} (r:aT k A) (h:j<=k):aT j A:=⟨r.hd,by have:=r.dp;omega,by have:=r.un;omega,r.gd⟩
theorem aT.deeper {k:Nat}{A:Around} (r:aT (k+1) A) (env:Env):aT k (A.deeper env):=
 ⟨r.hd,by have:=r.dp;show A.depth+1+3 * k+5 < _;omega,by have:=r.un;show A.units+3+16 * k+200 < _;omega,by first | exact r.gd | simp[Around.deeper,r.gd]⟩
theorem KH {A:Around}{C:Addr}{us:List Value}{kw:List (Str×Value)}:(A.under (.builtin "type.__call__" ⟨.ref C::us,kw⟩)).depth=A.depth+1:=by
 first | rfl | simp[Around.under,Code.weight,Code.isCreation,Code.isGuard,Code.isCaller,Code.frames,Code.isFrame,guardIds]
theorem KI {A:Around}{C:Addr}{us:List Value}{kw:List (Str×Value)}:(A.under (.builtin "type.__call__" ⟨.ref C::us,kw⟩)).units=A.units+1:=by
 first | rfl | simp[Around.under,Code.cUnits,Code.frames,Code.isFrame]
theorem Kt {A:Around}{C:Addr}{us:List Value}{kw:List (Str×Value)} (h:A.guards=some []):(A.under (.builtin "type.__call__" ⟨.ref C::us,kw⟩)).guards=some []:=by
 first | exact h | (simp[Around.under,Code.guards,Code.isGuard,guardIds,pushGuards,h])
theorem aT.make {k:Nat}{A:Around} (r:aT (k+1) A) (C:Addr) (us:List Value) (kw:List (Str×Value)):aT k (A.under (.builtin "type.__call__" ⟨.ref C::us,kw⟩)):=
 ⟨r.hd,by have:=r.dp;rw[KH];omega,by have:=r.un;rw[KI];omega,Kt r.gd⟩
theorem aT.depth {k:Nat}{A:Around} (r:aT k A):A.depth < recursionLimit:=by have:=r.dp;omega
theorem aT.units {k:Nat}{A:Around} (r:aT k A):A.units+64 < cLine:=by have:=r.un;omega
def NU:TA:=fun _ H Q=>Q [] H
def Cz (ta:TE) (tr:TA):TA:=fun σ H Q=>ta σ H fun x H1=>tr σ H1 fun xs H2=>Q (x::xs) H2
section
variable {X : Cx} {e : Expr} {es : List Expr} {te : TE} {t : TA} {pos : Pos}
theorem ai:PA X [] NU:=fun _ _ _ _ H Q I h=>Calls.spliced_nil ⟨[],H,I,.nil,h⟩
theorem ae (ha:PE X e te) (hr:PA X es t) (hs:starEach (e::es) X.env=(false,eval e X.env)::starEach es X.env:=by rfl):PA X (e::es) (Cz te t):=by
 intro pos pins s σ H Q I h
 rw[hs]
 show wpAny _ _ (spliced ((false,eval e X.env)::backTo pos (starEach es X.env))) _ _ s
 refine Calls.spliced_cons (au (ha pins s σ H _ I h) fun u s1 ⟨x,H1,I1,r1,q1⟩=>?_)
 exact au (hr pos pins s1 σ H1 _ I1 q1) fun us s2 ⟨xs,H2,I2,r2,q2⟩=>⟨x::xs,H2,I2,.cons r1 r2,q2⟩
def aad (t:TA):TE:=fun σ H Q=>t σ H fun xs H1=>xs.length<=sizeLine /\ ∀p,H1 p=none->Q (.ref p) (upd H1 p (.tup xs))
def aae (t:TA):TE:=fun σ H Q=>t σ H fun xs H1=>xs.length<=sizeLine /\ ∀p,H1 p=none->Q (.ref p) (upd H1 p (.lst xs))
theorem mw {x1} (h:PA X es t):PE X (.Tuple es x1 pos) (aad t):=by
 intro pins s σ H Q I hq
 refine wpAny_Tuple_spliced (au (h pos pins s σ H _ I hq) fun us s1 ⟨xs,H1,I1,r,z,q⟩=>⟨by rw[<-r.length];exact z,?_⟩)
 have hf:H1 s1.heap.objs.size=none:=I1.ar.fresh (aN _)
 refine⟨.ref s1.heap.objs.size,upd H1 s1.heap.objs.size (.tup xs),I1.laid (t':=s1.toks) (fun b u e=>bj _ e) (aN _) ?_,rfl,q _ hf⟩
 exact⟨z,us,r,⟨_,dj _ rfl,rfl,_,rfl,rfl⟩⟩
theorem cQ (h:PA X es t):PE X (.List es pos) (aae t):=by
 intro pins s σ H Q I hq
 refine wpAny_List_spliced (au (h pos pins s σ H _ I hq) fun us s1 ⟨xs,H1,I1,r,z,q⟩=>⟨by rw[<-r.length];exact z,?_⟩)
 have hf:H1 s1.heap.objs.size=none:=I1.ar.fresh (aN _)
 refine⟨.ref s1.heap.objs.size,upd H1 s1.heap.objs.size (.lst xs),I1.laid (t':=s1.toks) (fun b u e=>bj _ e) (aN _) ?_,rfl,q _ hf⟩
 exact⟨z,us,0,r,dj _ rfl⟩
end
abbrev Sp:=List V->Hp->VK->XK->Prop
abbrev jX:=List Env->Hp->Shared->XK->Value->Shared->Prop
structure m5 (P:Program) (w:World) (K:PySem.W.Frag) (mg:Str->Option Value) (base:Heap) (A:Around) (outer:List Env) (s:Shared) (H:Hp):Prop where
 frames:A.frames=some outer
 mod:Mod K mg base
 bs:∀b o,base.get? b=some o->s.heap.get? b=some o/\H b=none
 jB:base.objs.size<=s.heap.objs.size
 fg:s.heap.FunFrames base outer
 jW:∀b∈cu outer,H b=none
 ar:cq P w H s.heap
 bare:AllBare s.gens
def CE (outer:List Env) (P:Program) (w:World) (H:Hp) (s:Shared) (Q:VK) (u:Value) (s':Shared):Prop:=
 ∃v H',s'.os=s.os/\AllBare s'.gens/\Un (cu outer) [] H H' s.heap s'.heap/\cq P w H' s'.heap/\RelV v u/\Q v H'
def CR (CX:jX) (outer:List Env) (P:Program) (w:World) (H:Hp) (s:Shared) (Q:VK) (E:XK) (r:Result) (s':Shared):Prop:=
 match r with
 | .ok (.ret u)=>CE outer P w H s Q u s'
 | .ok _=>False
 | .error e=>CX outer H s E e s'
structure aG (P:Program) (w:World) (K:PySem.W.Frag) (mg:Str->Option Value) (base:Heap) (CX:jX) (k:Nat) (f:Addr) (fd:FuncData) (ps:List Str) (sp:Sp):Prop where
 len:∀vs H Q E,sp vs H Q E->vs.length=ps.length
 run:∀ (A:Around) (outer:List Env) (s:Shared) (H:Hp) (args:Args) (us:List Value) (vs:List V) (Q:VK) (E:XK),aT k A->m5 P w K mg base A outer s H->BindsTo s fd args (ps.zip us)->Vals vs us->sp vs H Q E ->
  codeAny (model P w) A (.call (.ref f) args) (CR CX outer P w H s Q E) s
theorem m5.make {P:Program}{w:World}{K:PySem.W.Frag}{mg:Str->Option Value}{base:Heap}{A:Around}{outer:List Env}{s:Shared}{H:Hp} (e:m5 P w K mg base A outer s H) (C:Addr) (us:List Value) (kw:List (Str×Value)) :
  m5 P w K mg base (A.under (.builtin "type.__call__" ⟨.ref C::us,kw⟩)) outer s H:=⟨by first | exact e.frames | (simpa [Around.under,Code.envs,Code.isFrame,pushEnvs] using e.frames),e.mod,e.bs,e.jB,e.fg,e.jW,e.ar,e.bare⟩
section
variable {X : Cx} {pins : List (Addr × Obj)} {σ : St} {H : Hp} {s s' : Shared}
theorem Inv.vW (I:Inv X pins σ H s):m5 X.prog X.w X.K X.mg X.base X.A X.stack s H:=
 ⟨I.ok.frames,I.ok.mod,I.bs,cK I.ok.jB I.sz,I.stack,I.yH,I.ar,I.bare⟩
theorem Inv.after {Q:VK}{u:Value} (I:Inv X pins σ H s) (h:CE X.stack X.prog X.w H s Q u s'):EP X pins σ Q u s':=by
 obtain⟨v,H',os,bare,un,ar,r,q⟩:=h
 obtain⟨hh,g,d,t,wN⟩:=s'
 obtain rfl:wN=s.os:=os
 exact⟨v,H',I.call (h':=hh) (g':=g) (d':=d) (t':=t) (ch:= []) un ar bare (fun b z=>absurd z (by simp)),r,q⟩
end
def CA (sp:Sp) (oQ:List V) (E:XK) (t:TA):TE:=fun σ H Q=>t σ H fun vs H1=>sp (vs++oQ) H1 Q E
def Binds (K:PySem.W.Frag) (fd:FuncData) (ps:List Str) (ds:List Value):Prop:=
 ∀ (s:Shared) (us:List Value),K.In s.heap->(us++ds).length=ps.length->BindsTo s fd ⟨us,[]⟩ (ps.zip (us++ds))
theorem Binds.all {K:PySem.W.Frag}{fd:FuncData}{ps:List Str} (h:∀us:List Value,us.length=ps.length->bindArgs fd ⟨us,[]⟩=pure (ps.zip us)):Binds K fd ps []:=fun s us _ hl=>by
 rw[eV]at hl ⊢
 exact .of_eq (h us hl)
def Passes (CX:jX) (X:Cx) (E:XK):Prop:= ∀ (pins:List (Addr×Obj)) (σ:St) (H:Hp) (s:Shared) (e:Value) (s':Shared),Inv X pins σ H s->CX X.stack H s E e s'->X.xe e s'
section
variable {X : Cx} {CX : jX} {k : Nat} {f C : Addr} {fd : FuncData} {ps : List Str} {sp : Sp} {oQ : List V} {ds : List Value} {E : XK} {x m : Str} {p pos apos : Pos} {e o : Expr} {es : List Expr} {ta : TE} {t : TA}
theorem Yh {pins:List (Addr×Obj)}{σ:St}{H:Hp}{s:Shared}{Q:VK}{us:List Value}{vs:List V} (F:aG X.prog X.w X.K X.mg X.base CX k f fd ps sp) (hr:aT k X.A) (hb:Binds X.K fd ps ds) (hd:Vals oQ ds) (hx:Passes CX X E)
  (I:Inv X pins σ H s) (r:Vals vs us) (h:sp (vs++oQ) H Q E):wpAny (model X.prog X.w) X.A (call (.ref f) us) (EP X pins σ Q) X.xe s:=by
 have r2:Vals (vs++oQ) (us++ds):=r.append hd
 have hl:(us++ds).length=ps.length:=by rw[<-r2.length];exact F.len _ _ _ _ h
 refine nL (pH (F.run X.A X.stack s H ⟨us,[]⟩ (us++ds) (vs++oQ) Q E hr I.vW (hb s us I.a7 hl) r2 h) fun r s' hq=>?_)
 cases r with
 | error e=>exact hx pins σ H s e s' I hq
 | ok fl =>
  cases fl with
  | ret u=>exact I.after hq
  | next=>exact False.elim hq
  | brk=>exact False.elim hq
  | cont=>exact False.elim hq
theorem aR (F:aG X.prog X.w X.K X.mg X.base CX k f fd ps sp) (hr:aT k X.A) (hg:Gl X x) (hm:X.mg x=some (.ref f)) (hk:PySem.W.keepIn X.K (.ref f)=true) (hb:Binds X.K fd ps ds) (hd:Vals oQ ds) (hx:Passes CX X E)
  (ha:PA X (e::es) t) (gY:(x==("__debug__" : Str))=false:=by decide) (he:starEach (e::es) X.env=(false,eval e X.env)::starEach es X.env:=by rfl) (cB:(backTo pos (starEach es X.env)).any (·.1)=false:=by rfl) :
  PE X (.Call (.Name x p) (e::es) [] pos) (CA sp oQ E t):=by
 intro pins s σ H Q I h
 refine pI (ly I hg hm ?_ gY)
 refine PySem.W.callWith_K (h₀:=X.base) I.ok.mod.iM hk (au (ha pos pins s σ H _ I h) fun us s1 ⟨vs,H1,I1,r,q⟩=>⟨I1.a7,?_⟩) he cB
 exact Yh F hr hb hd hx I1 r q
end
structure bZ (N P:List Str) (sc:Scope):Prop where
 kind:sc.kind = .function
 co:sc.isCoroutine=false
 gen:sc.isGenerator=false
 nd:N.Nodup
 pre:N.take P.length=P
 par:∀x∈P,sc.names.lookup x=some .local\/sc.names.lookup x=some .cell
 Yi:∀y∈sc.names,y.2 ≠ .free
theorem K7 {kindOf:Str->Option NameKind}{x:Str}:∀ {binds:List (Str×Value)}{m:Str->Option Value},(∀v,(x,v) ∉ binds)->bindL kindOf binds m x=m x
 | [],_,_=>rfl
 | (n,v)::r,m,h=>by
  unfold bindL
  rw[K7 fun w hw=>h w (bU _ hw)]
  split
  ·have:x≠n:=by rintro rfl;exact h v ba
   simp[this]
  ·rfl
theorem K8 {kindOf:Str->Option NameKind}{x:Str}:∀ {binds:List (Str×Value)}{m:Str->Option Value},(∀v,(x,v) ∉ binds)->bindC kindOf binds m x=m x
 | [],_,_=>rfl
 | (n,v)::r,m,h=>by
  unfold bindC
  rw[K8 fun w hw=>h w (bU _ hw)]
  split
  ·rfl
  ·have:x≠n:=by rintro rfl;exact h v ba
   simp[this]
theorem K9 {kindOf:Str->Option NameKind}{x:Str}{v:Value}:∀ {P:List Str}{vs:List Value}{i:Nat}{m:Str->Option Value},P.Nodup->P[i]? = some x->vs[i]? = some v->kindOf x=some .local ->
  bindL kindOf (P.zip vs) m x=some v
 | [],_,_,_,_,h,_,_=>by simp at h
 | _::_,[],_,_,_,_,h,_=>by simp at h
 | p::P,w::vs,0,m,nd,h1,h2,hk=>by
  simp at h1 h2;subst h1;subst h2
  show bindL kindOf ((p,w)::P.zip vs) m p=_
  unfold bindL
  rw[K7 fun v hv=>(ix.mp nd).1 (JH hv).1,aA hk]
  simp
 | p::P,w::vs,i+1,m,nd,h1,h2,hk=>by
  show bindL kindOf ((p,w)::P.zip vs) m x=_
  unfold bindL
  exact K9 (i:=i) (ix.mp nd).2 (by simpa using h1) (by simpa using h2) hk
theorem K' {kindOf:Str->Option NameKind}{x:Str}{v:Value}:∀ {P:List Str}{vs:List Value}{i:Nat}{m:Str->Option Value},P.Nodup->P[i]? = some x->vs[i]? = some v->kindOf x≠some .local ->
  bindC kindOf (P.zip vs) m x=some v
 | [],_,_,_,_,h,_,_=>by simp at h
 | _::_,[],_,_,_,_,h,_=>by simp at h
 | p::P,w::vs,0,m,nd,h1,h2,hk=>by
  simp at h1 h2;subst h1;subst h2
  show bindC kindOf ((p,w)::P.zip vs) m p=_
  unfold bindC
  rw[K8 fun v hv=>(ix.mp nd).1 (JH hv).1,aq hk]
  simp
 | p::P,w::vs,i+1,m,nd,h1,h2,hk=>by
  show bindC kindOf ((p,w)::P.zip vs) m x=_
  unfold bindC
  exact K' (i:=i) (ix.mp nd).2 (by simpa using h1) (by simpa using h2) hk
def start (N:List Str) (vs:List V):St:=vs.map some++List.replicate (N.length - vs.length) none
def i3 (CX:jX) (P:Program) (w:World) (K:PySem.W.Frag) (mg:Str->Option Value) (base:Heap) (N:List Str) (qual:Str) (scope:Scope) (f:Addr) (cd:Value) (A:Around) (outer:List Env) (s:Shared) (H:Hp) (E:XK):Cx where
 prog:=P
 w:=w
 K:=K
 mg:=mg
 base:=base
 A:=A.deeper (envOfC qual scope s.heap.objs.size f cd)
 N:=N
 cp:=s
 iI:=H
 env:=envOfC qual scope s.heap.objs.size f cd
 outer:=outer
 stack:=envOfC qual scope s.heap.objs.size f cd::outer
 ex:= []
 calm:=true
 fn:=fun _=>true
 pn:= []
 xe:=fun e s'=>wpAny (model P w) (A.deeper (envOfC qual scope s.heap.objs.size f cd)) (leaving (envOfC qual scope s.heap.objs.size f cd) e) (fun _ kZ=>CX outer H s E e kZ) (fun e' kZ=>CX outer H s E e' kZ) s'
theorem BL {sc:Scope}{n:Nat}{x:Str} (h:sc.names.lookup x=some .cell):∃c,(cellsFrom n sc.names []).lookup x=some c:=by
 have q:=Tg sc.names n [] (.inl h)
 exact akF.mp q
theorem La {CX:jX}{P:Program}{w:World}{K:PySem.W.Frag}{mg:Str->Option Value}{base:Heap}{N ps:List Str}{qual:Str}{scope:Scope}{f:Addr}{cd:Value}{A:Around}{outer:List Env}{s s1:Shared}{H:Hp}{E:XK}{us:List Value}{vs:List V}
  (S:bZ N ps scope) (hd:A.handled=none) (e0:m5 P w K mg base A outer s H) (hl:vs.length=ps.length) (r:Vals vs us)
  (x:InCallC s s.heap.objs.size (bindL (envOfC qual scope s.heap.objs.size f cd).kindOf (ps.zip us) fun _=>none) (cellsFrom (s.heap.objs.size+1) scope.names []) (bindC (envOfC qual scope s.heap.objs.size f cd).kindOf (ps.zip us) fun _=>none) s1) :
  Inv (i3 CX P w K mg base N qual scope f cd A outer s H E) [] (start N vs) H s1:=by
 have cB:ps.length<=N.length:=by have:=eT List.length S.pre;rw[dq]at this;omega
 obtain⟨h1,tk,rfl,hk⟩:=x.done
 have wO:∀b:Addr,b ∉ (i3 CX P w K mg base N qual scope f cd A outer s H E).ex:=fun b z=>absurd (show b∈([]:List Addr) from z) (by simp)
 refine⟨⟨e0.mod,S.kind,rfl,rfl,aN _,fun y z c h1 h2=>?_,fun y hy=>?_,fun y c _ h=>?_,fun _=>hd,Around.frames_deeper e0.frames,.inr ⟨rfl,rfl⟩,fun b z=>absurd z (wO b),e0.bs,e0.jB,fun b _ _=>wO b,fun b z=>absurd z (wO b),e0.fg,e0.jW⟩,
  rfl,e0.bare,Un.kept hk,⟨_,x.toInCall.ns,fun i y v h1 h2 h3=>?_⟩,fun y c h=>⟨_,x.cell y c h⟩,e0.ar.fresh (aN _),fun y c h=>?_,fun p hp=>absurd (show p∈([]:List (Addr×Obj)) from hp) (by simp),e0.ar.kept hk,?_⟩
 ·exact name_of_addr x.apart (nM h1) (nM h2)
 ·have hy:scope.names.lookup y=some .cell\/scope.names.lookup y=some .free:=hy
  rcases hy with hy | hy
  ·exact BL hy
  ·exact absurd rfl (S.Yi _ (nM hy))
 ·exact xZ (x.above y c (nM h))
 ·have hi:i < vs.length:=by
   unfold start at h2
   by_cases hi:i < vs.length
   ·exact hi
   ·rw[akG (by simpa using hi)]at h2
    rw[List.getElem?_replicate]at h2
    split at h2 <;> cases h2
  have ha:vs[i]? = some v:=by
   unfold start at h2
   rw[akH (by simpa using hi),f6]at h2
   cases e:vs[i]? with
   | none=>rw[e]at h2;cases h2
   | some a=>rw[e]at h2;cases h2;rfl
  obtain⟨u,hu,rv⟩:=r.get ha
  have hp:ps[i]? = some y:=by
   rw[<-S.pre,List.getElem?_take_of_lt (by omega)];exact h1
  have PH:ps.Nodup:=by rw[<-S.pre];exact S.nd.sublist (Th _ _)
  refine⟨u,rv,?_⟩
  rcases S.par y (j8 hp) with k | k
  ·exact .inl ⟨k,K9 PH hp hu k⟩
  ·obtain⟨c,e⟩:=BL (n:=s.heap.objs.size+1) k
   refine .inr ⟨.inl k,c,e,?_⟩
   have q:=x.cell y c e
   rw[K' PH hp hu (by show scope.names.lookup y≠_;rw[k];decide)]at q
   exact q
 ·exact e0.ar.fresh (xZ (x.above y c (nM h)))
 ·unfold start
  show _=N.length
  rw[c9,aE,JI]
  omega
theorem Nn {CX:jX}{P:Program}{w:World}{K:PySem.W.Frag}{mg:Str->Option Value}{base:Heap}{k:Nat}{f:Addr}{name qual:Str}{params:Arguments}{body:List Stmt}{scope:Scope}{dV kV doc pm cdv ct oc:Value}{an od:Option Addr}
  {lR:Array (Option Value)}{N ps:List Str}{sp:Sp} (lk:K.lookup f=some ⟨oc,od,.func (PySem.W.fnOf name qual params body scope dV kV doc pm an cdv ct),lR⟩) (fq:PySem.W.codeIn K cdv qual=true) (S:bZ N ps scope)
  (len:∀vs H Q E,sp vs H Q E->vs.length=ps.length)
  (mU:∀ (A:Around) (outer:List Env) (s:Shared) (H:Hp) (vs:List V) (Q:VK) (E:XK),aT k (A.deeper (envOfC qual scope s.heap.objs.size f cdv))->sp vs H Q E ->
   ∃t,gg (i3 CX P w K mg base N qual scope f cdv A outer s H E) body t/\t { nx:=fun _ H'=>Q .aD H',rt:=Q } (start N vs) H) :
  aG P w K mg base CX (k+1) f (PySem.W.fnOf name qual params body scope dV kV doc pm an cdv ct) ps sp:=by
 refine⟨len,fun A outer s H args us vs Q E hr e0 hb r jC=>?_⟩
 have hl:=len _ _ _ _ jC
 have KX:K.In s.heap:=e0.mod.iM.keeps fun b o e=>(e0.bs b o e).1
 have lim:s.heap.NoLimit:=e0.mod.nolimit.keeps fun b o e=>(e0.bs b o e).1
 have CB:∀y∈ps.zip us,scope.names.lookup y.1=some .local\/(scope.names.lookup y.1=some .cell/\((cellsFrom (s.heap.objs.size+1) scope.names []).lookup y.1).isSome=true):=fun⟨n,v⟩ hy=>by
  rcases S.par n (JH hy).1 with q | q
  ·exact .inl q
  ·exact .inr ⟨q,Tg _ _ _ (.inl q)⟩
 refine codeAny_call_function hr.depth (KX _ _ lk) rfl S.co S.gen rfl (PySem.W.codeRec_of KX fq) (hb _ _ _ _ ?_)
 refine akK S.kind CB fun env he s1 x=>?_
 subst he
 refine⟨lim.keeps x.toInCall.keep,codeAny_func ?_⟩
 obtain⟨t,ht,hq⟩:=mU A outer s H vs Q E (hr.deeper _) jC
 have I:Inv (i3 CX P w K mg base N qual scope f cdv A outer s H E) [] (start N vs) H s1:=La S hr.hd e0 hl r x
 refine md (ht [] s1 (start N vs) H _ I hq) (fun fl s' hs=>?_) fun e s' hs=>hs
 have fin:∀ {aH:St}{H':Hp}{v:V}{u:Value},Inv (i3 CX P w K mg base N qual scope f cdv A outer s H E) [] aH H' s'->RelV v u->Q v H'->CE outer P w H s Q u s':=
  fun {aH H' v u} J rv q=>⟨v,H',J.os,J.bare,J.base,J.ar,rv,q⟩
 cases fl with
 | ret u =>
  obtain⟨v,aH,H',J,rv,q⟩:=hs
  exact fin J rv q
 | next =>
  obtain⟨aH,H',J,q⟩:=hs
  exact fin (v:=V.aD) (u:=Value.none) J rfl q
 | brk =>
  obtain⟨_,_,_,q⟩:=hs
  exact False.elim q
 | cont =>
  obtain⟨_,_,_,q⟩:=hs
  exact False.elim q
end L2
namespace L2
open PySem PySem.Spec PyProof.Rows
section
variable {X : Cx} {x : Str} {p pos : Pos} {e : Expr} {es : List Expr} {t : TA} {id T : String} {r : List V -> Hp -> VK -> Prop}
def PK (r:List V->Hp->VK->Prop) (t:TA):TE:=fun σ H Q=>t σ H fun vs H1=>r vs H1 Q
theorem bx (hc:df X (.builtin id) r) (hg:Gl X x) (hm:X.mg x=none) (hv:bootBuiltins x=some (.builtin id)) (ha:PA X (e::es) t) (hn:x ≠ "__name__" :=by decide) (gY:(x==("__debug__" : Str))=false:=by decide)
  (he:starEach (e::es) X.env=(false,eval e X.env)::starEach es X.env:=by rfl) (cB:(backTo pos (starEach es X.env)).any (·.1)=false:=by rfl):PE X (.Call (.Name x p) (e::es) [] pos) (PK r t):=by
 intro pins s σ H Q I h
 refine pI (pZ I hg hm hv ?_ hn gY)
 exact akL (au (ha pos pins s σ H _ I h) fun us s1 ⟨vs,H1,I1,r1,q1⟩=>hc pins s1 σ H1 vs us Q I1 r1 q1) he cB
theorem fb (hc:df X (.type T) r) (hg:Gl X x) (hm:X.mg x=none) (hv:bootBuiltins x=some (.type T)) (ha:PA X (e::es) t) (hn:x ≠ "__name__" :=by decide) (gY:(x==("__debug__" : Str))=false:=by decide)
  (he:starEach (e::es) X.env=(false,eval e X.env)::starEach es X.env:=by rfl) (cB:(backTo pos (starEach es X.env)).any (·.1)=false:=by rfl):PE X (.Call (.Name x p) (e::es) [] pos) (PK r t):=by
 intro pins s σ H Q I h
 refine pI (pZ I hg hm hv ?_ hn gY)
 exact AE (au (ha pos pins s σ H _ I h) fun us s1 ⟨vs,H1,I1,r1,q1⟩=>hc pins s1 σ H1 vs us Q I1 r1 q1) he cB
end
end L2
namespace HT
open PySem PyProof.Rows
section
open PySem.SeqAt
open PySem.AutoSeq1 (wpAny_loadPart')
open PySem.MeetsSeq PySem.MeetsSeq2 PySem.MeetsSeq3
end
section
variable {prog : Program} {w : World} {A : Around} {E : Value -> Shared -> Prop} {s : Shared}
theorem Xb {t b:Addr}{vs ws:List Value}{Q:Value->Shared->Prop} (ht:IsTup s.heap t vs.toArray) (hb:IsTup s.heap b ws.toArray) (hv:vs ≠ [])
  (h1:ws = []->Q (.ref t) s) (h2:ws ≠ []->Q (.ref s.heap.objs.size) { s with heap:=s.heap.push { cls:= .type "tuple", data:= .seq (vs++ws).toArray } })
  (hsz:vs.length+ws.length<=sizeLine):wpAny (model prog w) A (binaryOp .Add (.ref t) (.ref b)) Q E s:=by
 obtain⟨⟨cls,dd,data,sl⟩,ho,hc,n,hd⟩:=id ht
 obtain⟨⟨NV,zB,data2,qL⟩,jD,gy,n2,hd2⟩:=id hb
 simp only at hc hd gy hd2
 subst hc hd gy hd2
 have e:vs.toArray++ws.toArray=(vs++ws).toArray:=by simp
 by_cases hw:ws = []
 ·exact concat_meets ⟨_,ho,rfl⟩ ⟨_,jD,rfl⟩ Tj Tn To Tp (Tq _ _)
   (tuple_addW1 t b vs.toArray ws.toArray n n2 dd zB sl qL (by simpa using hv) (by simp[hw])) ⟨ho,jD,h1 hw⟩
 ·refine concat_meets ⟨_,ho,rfl⟩ ⟨_,jD,rfl⟩ Tj Tn To Tp (Tq _ _)
   (tuple_addW2 t b vs.toArray ws.toArray n n2 dd zB sl qL (by simpa using hv) (by simpa using hw) (by rw[cL,cL];exact hsz)) ⟨ho,jD,?_⟩
  rw[e]
  exact h2 hw
def gj (n d:Nat):Option Int->Nat
 | none=>d
 | some v=>if v < 0 then (v+(n:Int)).toNat else min v.toNat n
theorem LK (n d:Nat):gj n d none=d:=rfl
theorem Mm (n d k:Nat):gj n d (some (k:Int))=min k n:=by
 show(if (k:Int) < 0 then ((k:Int)+(n:Int)).toNat else min (k:Int).toNat n)=min k n
 rw[aq (by omega),JJ]
end
end HT
namespace L2
open PySem PySem.Spec PyProof.Rows
abbrev TO:=St->Hp->(Option Int->Hp->Prop)->Prop
def PO (X:Cx) (e:Option Expr) (t:TO):Prop:=
 ∀ (pins:List (Addr×Obj)) (s:Shared) (σ:St) (H:Hp) (Q:Option Int->Hp->Prop),Inv X pins σ H s->t σ H Q ->
  wpAny (model X.prog X.w) X.A (evalPart e X.env) (fun u s'=>∃o H',Inv X pins σ H' s'/\IsPart u o/\Q o H') X.xe s
def Xc:TO:=fun _ H Q=>Q none H
def Y1 (t:TE):TO:=fun σ H Q=>t σ H fun x H1=>∃i,x = .int i/\Q (some i) H1
section
variable {X : Cx} {e : Expr} {te : TE} {lo hi : Option Expr} {tl th : TO} {pos p2 : Pos}
theorem yJ:PO X none Xc:=by
 intro pins s σ H Q I h
 rw[Tr]
 exact aB ⟨none,H,I,.none,h⟩
theorem vo (h:PE X e te):PO X (some e) (Y1 te):=by
 intro pins s σ H Q I hw
 rw[evalPart_some]
 refine au (h pins s σ H _ I hw) fun u s1 ⟨x,H1,I1,r1,q1⟩=>?_
 obtain⟨i,rfl,q⟩:=q1
 obtain⟨t,rfl⟩:=r1
 exact⟨some i,H1,I1,.int i t,q⟩
def zC (X:Cx) (r:V->Option Int->Option Int->Hp->VK->Prop):Prop:=
 ∀ (pins:List (Addr×Obj)) (s:Shared) (σ:St) (H:Hp) (x:V) (v vl vu:Value) (lo hi:Option Int) (sl:Addr) (Q:VK),Inv X pins σ H s->RelV x v->s.heap.IsSliceOf sl vl vu .none->IsPart vl lo->IsPart vu hi->r x lo hi H Q ->
  ∃T id,typeLookup (.type T) "__getitem__" = pure (some (.builtin id))/\s.TypeIs v T/\wpAny (model X.prog X.w) X.A (getItem v (.ref sl)) (EP X pins σ Q) X.xe s
def tSl (r:V->Option Int->Option Int->Hp->VK->Prop) (te:TE) (tl th:TO):TE:=fun σ H Q=>te σ H fun x H1=>tl σ H1 fun l H2=>th σ H2 fun u H3=>r x l u H3 Q
theorem yB {r:V->Option Int->Option Int->Hp->VK->Prop} (hr:zC X r) (he:PE X e te) (hl:PO X lo tl) (hu:PO X hi th):PE X (.Subscript e (.Slice lo hi none p2) pos) (tSl r te tl th):=by
 intro pins s σ H Q I h
 refine Subscript_ (au (he pins s σ H _ I h) fun v s1 ⟨x,H1,I1,r1,q1⟩=>?_)
 refine wpAny_Slice (au (hl pins s1 σ H1 _ I1 q1) fun vl s2 ⟨l,H2,I2,pl,q2⟩=>au (hu pins s2 σ H2 _ I2 q2) fun vu s3 ⟨u,H3,I3,pu,q3⟩=>?_)
 rw[Tr]
 refine aB ?_
 have I4:Inv X pins σ H3 { s3 with heap:=s3.heap.push { cls:= .type "slice", data:= .fields #[vl,vu,.none] } }:=I3.kept (t':=s3.toks) fun b ob q=>bj _ q
 obtain⟨T,id,hT,ht,hg⟩:=hr pins { s3 with heap:=s3.heap.push { cls:= .type "slice", data:= .fields #[vl,vu,.none] } } σ H3 x v vl vu l u s3.heap.objs.size Q I4 r1 (Heap.IsSliceOf.new ..) pl pu q3
 show wpAny (model X.prog X.w) X.A (subscriptTail e (.Slice lo hi none p2) v (.ref s3.heap.objs.size)) (EP X pins σ Q) X.xe { s3 with heap:=s3.heap.push { cls:= .type "slice", data:= .fields #[vl,vu,.none] } }
 exact tail_any (ops:= [.ref s3.heap.objs.size,v]) ht hT hg (by with_unfolding_all rfl)
def gu (xs:List V) (lo hi:Option Int):List V:=(xs.drop (HT.gj xs.length 0 lo)).take (HT.gj xs.length xs.length hi - HT.gj xs.length 0 lo)
theorem Ku (xs:List V) (lo hi:Option Int):(gu xs lo hi).length<=xs.length:=by
 unfold gu
 rw[dq,Ts]
 omega
def Y2 (K:PySem.W.Frag):R2:=fun x y H Q=>∃a b xs ys,x = .ref a/\y = .ref b/\aJ K H a xs/\aJ K H b ys/\xs ≠ []/\xs.length+ys.length<=sizeLine /\
 (ys = []->Q (.ref a) H)/\(ys ≠ [] -> ∀p,H p=none->Q (.ref p) (upd H p (.tup (xs++ys))))
theorem Vals.B4 {xs:List V}{us:List Value} (r:Vals xs us):us = [] ↔ xs = []:=by
 cases r with
 | nil=>simp
 | cons _ _=>simp
theorem Xd:cA X (binaryOp .Add) (Y2 X.K):=by
 intro pins s σ H x y v u Q I rx ry h
 obtain⟨a,b,xs,ys,rfl,rfl,ha,hb,hx,hz,q1,q2⟩:=h
 cases rx
 cases ry
 obtain⟨its,r1,p1,_⟩:=I.tuple ha
 obtain⟨tE,r2,p2,_⟩:=I.tuple hb
 refine HT.Xb p1 p2 (fun z=>hx (r1.B4.mp z)) (fun z=>⟨.ref a,H,I,rfl,q1 (r2.B4.mp z)⟩) (fun z=>?_) (by rw[<-r1.length,<-r2.length];exact hz)
 refine⟨.ref s.heap.objs.size,_,I.laid (t':=s.toks) (o:= .tup (xs++ys)) (fun b ob q=>bj _ q) (aN _) ?_,rfl,q2 (fun w=>z (r2.B4.mpr w)) _ (I.ar.fresh (aN _))⟩
 exact⟨by rw[c9];exact hz,_,r1.append r2,qo.new _ _⟩
end
end L2
namespace L2
open PySem PySem.Spec PyProof.Rows
def qM (n:Nat) (i:Int):Option Nat:=if 0<=i then (if i < n then some i.toNat else none) else if -(n:Int)<=i then some (i+n).toNat else none
def ee {α:Type} (xs:List α) (i:Int):Option α:=(qM xs.length i).bind fun j=>xs[j]?
theorem Mn {n:Nat}{i:Int}{j:Nat} (h:qM n i=some j):seqIndex? i n=some j/\j < n /\ -(n:Int)<=i/\i < n:=by
 unfold qM at h
 by_cases h0:0<=i
 ·rw[aA h0]at h
  by_cases h1:i < n
  ·rw[aA h1]at h
   have e:i.toNat=j:=gF h
   exact⟨by rw[AF h0 h1,e],by omega,by omega,h1⟩
  ·rw[aq h1]at h;cases h
 ·rw[aq h0]at h
  by_cases h1 : -(n:Int)<=i
  ·rw[aA h1]at h
   have e:(i+n).toNat=j:=gF h
   exact⟨by rw[seqIndex_neg (by omega) h1,e],by omega,h1,by omega⟩
  ·rw[aq h1]at h;cases h
theorem B5 {α:Type}{xs:List α}{i:Int}{v:α} (h:ee xs i=some v):∃j,seqIndex? i xs.length=some j/\xs[j]? = some v/\j < xs.length /\ -(xs.length:Int)<=i/\i < xs.length:=by
 unfold ee at h
 cases e:qM xs.length i with
 | none=>rw[e]at h;cases h
 | some j =>
  rw[e]at h
  obtain⟨h1,h2,h3,h4⟩:=Mn e
  exact⟨j,h1,h,h2,h3,h4⟩
theorem eO {α:Type}{xs:List α}{j:Nat}{v:α} (h:xs[j]? = some v):ee xs (j:Int)=some v:=by
 have hj:j < xs.length:=(b9.mp h).1
 have e:qM xs.length (j:Int)=some j:=by
  unfold qM
  rw[aA (by omega),aA (by omega)];simp
 unfold ee;rw[e];exact h
def Xe (b:Expr):Prop:= ∀o i,subscripted b false o i=operate [o,i] (getItem o i)
def ug (X:Cx) (r:R2):Prop:=
 ∀ (value slice:Expr) (pins:List (Addr×Obj)) (s:Shared) (σ:St) (H:Hp) (x y:V) (v u:Value) (Q:VK),Inv X pins σ H s->RelV x v->RelV y u->r x y H Q ->
  subscripted slice false v u=operate [v,u] (getItem v u)->wpAny (model X.prog X.w) X.A (subscriptTail value slice v u) (EP X pins σ Q) X.xe s
def PL (X:Cx) (id:String) (r:V->List V->Hp->VK->Prop):Prop:=
 ∀ (pins:List (Addr×Obj)) (s:Shared) (σ:St) (H:Hp) (x:V) (xs:List V) (v:Value) (us:List Value) (Q:VK),Inv X pins σ H s->RelV x v->Vals xs us->r x xs H Q ->
  wpAny (model X.prog X.w) X.A (call (.builtin id) (v::us)) (EP X pins σ Q) X.xe s
section
variable {X : Cx} {a b : Expr} {ta tb : TE} {pos : Pos}
theorem cz {r:R2} (hr:ug X r) (ha:PE X a ta) (hb:PE X b tb) (hs:Xe b):PE X (.Subscript a b pos) (uf r ta tb):=by
 intro pins s σ H Q I h
 exact Subscript_ (C1 ha hb I h fun v u s2 x y H2 I2 rx ry q=>hr a b pins s2 σ H2 x y v u Q I2 rx ry q (hs _ _))
def NW (K:PySem.W.Frag):R2:=fun x y H Q=>∃p xs i v,x = .ref p/\y = .int i/\aj K H p xs/\ee xs i=some v/\Q v H
def NX (K:PySem.W.Frag):R2:=fun x y H Q=>∃p xs i v,x = .ref p/\y = .int i/\aJ K H p xs/\ee xs i=some v/\Q v H
def aaf:R2:=fun x y H Q=>∃z i c,x = .str z/\y = .int i/\z.length<=sizeLine/\ee z.cps.toList i=some c/\Q (.str ⟨#[c]⟩) H
theorem gH:ug X (NW X.K):=by
 intro value slice pins s σ H x y v u Q I rx ry h hs
 obtain⟨p,xs,i,z,rfl,rfl,hq,he,q⟩:=h
 cases rx
 obtain⟨t,rfl⟩:=ry
 obtain⟨its,r,pl,hz⟩:=I.list hq
 obtain⟨j,h1,h2,h3,h4,h5⟩:=B5 he
 obtain⟨w,ew,gx⟩:=r.get h2
 have hl:=r.length
 have hn:=qb
 have fin:EP X pins σ Q w s:=⟨z,H,I,gx,q⟩
 by_cases h0:0<=i
 ·have hj:i.toNat=j:=by
   rw[AF h0 h5]at h1
   exact gF h1
  exact item_listR pl.isList h0 (by omega) (by rw[hj];simpa using ew) fin hs
 ·have hj:(i+(its.toArray.size:Int)).toNat=j:=by
   rw[seqIndex_neg (by omega) h4]at h1
   rw[cL,<-hl]
   exact gF h1
  exact subscriptTail_builtinR (x:=w) pl.isList.typeIs Tt.lookup
   (wpAny_getItem_list_neg (Q:=fun r s'=>r=w/\EP X pins σ Q r s') pl.isList (by omega) (by rw[cL] <;> omega) (by omega) (by rw[hj];simpa using ew) ⟨rfl,fin⟩) hs
theorem og:ug X (NX X.K):=by
 intro value slice pins s σ H x y v u Q I rx ry h hs
 obtain⟨p,xs,i,z,rfl,rfl,hq,he,q⟩:=h
 cases rx
 obtain⟨t,rfl⟩:=ry
 obtain⟨its,r,pl,hz⟩:=I.tuple hq
 obtain⟨j,h1,h2,h3,h4,h5⟩:=B5 he
 obtain⟨w,ew,gx⟩:=r.get h2
 have hl:=r.length
 have hn:=qb
 have fin:EP X pins σ Q w s:=⟨z,H,I,gx,q⟩
 exact subscriptTail_builtinR (x:=w) pl.typeIs slot_tuple_getitem.lookup
  (getItem_tuple (j:=j) (Q:=fun r s'=>r=w/\EP X pins σ Q r s') pl (by omega) (by omega) (by rw[cL,<-hl];exact h1) (by simpa using ew) ⟨rfl,fin⟩) hs
theorem MZ:ug X aaf:=by
 intro value slice pins s σ H x y v u Q I rx ry h hs
 obtain⟨z,i,c,rfl,rfl,hz,he,q⟩:=h
 obtain⟨t,rfl⟩:=rx
 obtain⟨t',rfl⟩:=ry
 obtain⟨j,h1,h2,h3,h4,h5⟩:=B5 he
 have hl:z.cps.toList.length=z.length:=by simp[Str.length]
 rw[hl]at h1 h4 h5
 have hn:=qb
 exact tail_any (typeIs_str s z t) slot_str_getitem.lookup (getItem_str (c:=c) (by
  have e1:decide (i < -(2 ^ 63:Int))=false:=je (by omega)
  have e2:decide (i ≥ 2 ^ 63)=false:=je (by omega)
  rw[e1,e2,Bool.or_false]) (by rw[h1];simpa using h2) ⟨.str ⟨#[c]⟩,H,I.tok _,⟨_,rfl⟩,q⟩) hs
theorem U0 (its:List Value) (n j:Nat) (u:Value):Obj.mapSeq (·.setIfInBounds j u) { cls:= .type "list", data:= .seq its.toArray n }={ cls:= .type "list", data:= .seq (its.set j u).toArray n }:=by
 simp[Obj.mapSeq]
theorem Inv.lst {pins:List (Addr×Obj)}{σ:St}{H:Hp}{s:Shared}{p:Addr}{xs:List V} (I:Inv X pins σ H s) (h:H p=some (.lst xs)) :
  ∃ (its:List Value) (n:Nat),Vals xs its/\s.heap.get? p=some { cls:= .type "list", data:= .seq its.toArray n }/\xs.length<=sizeLine:=by
 obtain⟨z,its,n,r,e⟩:=I.ar p _ h
 exact⟨its,n,r,e,z⟩
theorem Inv.Yj {pins:List (Addr×Obj)}{σ:St}{H:Hp}{s:Shared}{p:Addr}{xs ys:List V}{its its':List Value}{n n':Nat}{f:Obj->Obj} (I:Inv X pins σ H s) (h:H p=some (.lst xs))
  (ho:s.heap.get? p=some { cls:= .type "list", data:= .seq its.toArray n }) (hf:f { cls:= .type "list", data:= .seq its.toArray n }={ cls:= .type "list", data:= .seq its'.toArray n' }) (r:Vals ys its') (hz:ys.length<=sizeLine) (t:Nat) :
  Inv X pins σ (upd H p (.lst ys)) { s with heap:=s.heap.update p f,toks:=t }:=by
 have e:(s.heap.update p f).get? p=some { cls:= .type "list", data:= .seq its'.toArray n' }:=by
  rw[pJ f ho (by rw[hf] <;> rfl),hf]
 refine I.write (x:=p) (e:=p) (by rw[h];trivial) (.inl rfl) (fun b u hb q=>(jg _ _ (aO hb)).trans q) ⟨_,e⟩ ?_
 exact⟨hz,its',n',r,e⟩
def Y3:V->V->V->Hp->(Hp->Prop)->Prop:=fun o i v H Q=>∃p xs k j,o = .ref p/\i = .int k/\H p=some (.lst xs)/\qM xs.length k=some j/\Q (upd H p (.lst (xs.set j v)))
theorem set_list:NP X Y3:=by
 intro pins s σ H o i v ov iv u Q I ro ri rv h
 obtain⟨p,xs,k,j,rfl,rfl,hp,hj,q⟩:=h
 cases ro
 obtain⟨t,rfl⟩:=ri
 obtain⟨its,n,r,ho,hz⟩:=I.lst hp
 obtain⟨h1,h2,h3,h4⟩:=Mn hj
 have hl:=r.length
 have hn:=qb
 have I':Inv X pins σ (upd H p (.lst (xs.set j v))) { s with heap:=s.heap.update p (Obj.mapSeq (·.setIfInBounds j u)) }:=
  I.Yj hp ho (U0 its n j u) (r.set rv j) (by rw[List.length_set];exact hz) s.toks
 by_cases h0:0<=k
 ·have hk:k.toNat=j:=by
   rw[AF h0 h4]at h1
   exact gF h1
  exact PySem.W.ki_setAt ho h0 (by omega) (by rw[cL,<-hl];exact h4) (by rw[hk];exact⟨_,I',q⟩)
 ·have hk:(k+(its.toArray.size:Int)).toNat=j:=by
   rw[seqIndex_neg (by omega) h3]at h1
   rw[cL,<-hl]
   exact gF h1
  exact PySem.W.ki_setBack ho (by omega) (by rw[cL,<-hl];exact h3) (by omega) (by rw[hk];exact⟨_,I',q⟩)
theorem Ut (lo hi:Option Int) (n:Nat):(sliceBounds lo hi none n).1=((HT.gj n 0 lo:Nat):Int)/\(sliceBounds lo hi none n).2.1=((HT.gj n n hi:Nat):Int)/\(sliceBounds lo hi none n).2.2=1:=by
 refine⟨?_,?_,rfl⟩
 ·cases lo with
  | none=>simp[sliceBounds,HT.gj]
  | some i =>
   simp only[sliceBounds,HT.gj,Option.getD_none,show(1:Int) > 0 by decide,pK]
   by_cases h:i < 0
   ·simp only[h,pK] <;> omega
   ·simp only[h,uU] <;> omega
 ·cases hi with
  | none=>simp[sliceBounds,HT.gj]
  | some i =>
   simp only[sliceBounds,HT.gj,Option.getD_none,show(1:Int) > 0 by decide,pK]
   by_cases h:i < 0
   ·simp only[h,pK] <;> omega
   ·simp only[h,uU] <;> omega
theorem Uq (its:List Value) (lo hi:Option Int):slicePick its.toArray lo hi none=((its.drop (HT.gj its.length 0 lo)).take (HT.gj its.length its.length hi - HT.gj its.length 0 lo)).toArray:=by
 obtain⟨h1,h2,h3⟩:=Ut lo hi its.toArray.size
 unfold slicePick
 rw[h1,h2,h3]
 simp only[sliceRange_one,pick_run,cL] <;> rfl
def NY (K:PySem.W.Frag):V->Option Int->Option Int->Hp->VK->Prop:=fun x lo hi H Q=>∃a xs,x = .ref a/\aj K H a xs /\ ∀p,H p=none->Q (.ref p) (upd H p (.lst (gu xs lo hi)))
theorem B6:zC X (NY X.K):=by
 intro pins s σ H x v vl vu lo hi sl Q I rx hs pl pu h
 obtain⟨a,xs,rfl,hx,q⟩:=h
 cases rx
 obtain⟨its,r,ht,hz⟩:=I.list hx
 have hlen:=r.length
 refine⟨"list", _,Tt.lookup,ht.isList.typeIs,?_⟩
 refine wpAny_getItem_list_slice ht.isList hs pl pu .none (by simp) ?_ (by rw[cL] <;> omega)
 rw[Uq,<-hlen]
 refine⟨.ref s.heap.objs.size,_,I.laid (t':=s.toks) (o:= .lst (gu xs lo hi)) (fun b ob q=>bj _ q) (aN _) ?_,rfl,q _ (I.ar.fresh (aN _))⟩
 exact⟨cK (Ku xs lo hi) hz,_,0,(r.drop (HT.gj xs.length 0 lo)).take (HT.gj xs.length xs.length hi - HT.gj xs.length 0 lo),dj _ rfl⟩
def lD:V->Bool
 | .aD=>true
 | .bl _=>true
 | .int _=>true
 | .str _=>true
 | _=>false
def oR:V->V->Bool
 | .aD,.aD=>true
 | .bl a,.bl b=>a==b
 | .bl a,.int b=>(if a then 1 else 0)==b
 | .int a,.bl b=>a==(if b then 1 else 0)
 | .int a,.int b=>a==b
 | .str a,.str b=>a==b
 | _,_=>false
theorem Yk {A:Around}{s:Shared}{y x:V}{u v:Value} (ry:RelV y u) (rx:RelV x v) (fy:lD y=true) (fx:lD x=true):SeqAt.EqAt A s u v (oR y x):=by
 cases y with
 | aD =>
  cases ry
  cases x with
  | aD=>cases rx;exact SeqAt.EqAt.same _
  | bl b=>cases rx;exact SeqAt.EqAt.none_bool b
  | int b=>obtain⟨t,rfl⟩:=rx;exact SeqAt.EqAt.none_int b t
  | str b=>obtain⟨t,rfl⟩:=rx;exact SeqAt.EqAt.none_str b t
  | _=>exact absurd (show false=true from fx) cU
 | bl a =>
  cases ry
  cases x with
  | aD=>cases rx;exact SeqAt.EqAt.bool_none a
  | bl b=>cases rx;exact SeqAt.EqAt.bool_bool a b
  | int b=>obtain⟨t,rfl⟩:=rx;exact SeqAt.EqAt.bool_int a b t
  | str b=>obtain⟨t,rfl⟩:=rx;exact SeqAt.EqAt.bool_str a b t
  | _=>exact absurd (show false=true from fx) cU
 | int a =>
  obtain⟨t',rfl⟩:=ry
  cases x with
  | aD=>cases rx;exact SeqAt.EqAt.int_none a t'
  | bl b=>cases rx;exact SeqAt.EqAt.int_bool a t' b
  | int b=>obtain⟨t,rfl⟩:=rx;exact SeqAt.EqAt.int_int a t' b t
  | str b=>obtain⟨t,rfl⟩:=rx;exact SeqAt.EqAt.int_str a t' b t
  | _=>exact absurd (show false=true from fx) cU
 | str a =>
  obtain⟨t',rfl⟩:=ry
  cases x with
  | aD=>cases rx;exact SeqAt.EqAt.str_none a t'
  | bl b=>cases rx;exact SeqAt.EqAt.str_bool a t' b
  | int b=>obtain⟨t,rfl⟩:=rx;exact SeqAt.EqAt.str_int a t' b t
  | str b=>obtain⟨t,rfl⟩:=rx;exact SeqAt.EqAt.str_str a t' b t
  | _=>exact absurd (show false=true from fx) cU
 | _=>exact absurd (show false=true from fy) cU
def gL (x:V) (u:Value):Bool:=match u with
 | .none=>oR .aD x
 | .bool b=>oR (.bl b) x
 | .int i _=>oR (.int i) x
 | .str z _=>oR (.str z) x
 | _=>false
theorem yN {x y:V}{u:Value} (r:RelV y u) (f:lD y=true):gL x u=oR y x:=by
 cases y with
 | aD=>cases r;rfl
 | bl b=>cases r;rfl
 | int i=>obtain⟨t,rfl⟩:=r;rfl
 | str z=>obtain⟨t,rfl⟩:=r;rfl
 | _=>exact absurd (show false=true from f) cU
theorem vp {x:V}:∀ {xs:List V}{us:List Value},Vals xs us->xs.all lD=true->us.any (gL x)=xs.any fun y=>oR y x
 | _,_,.nil,_=>rfl
 | y::xs,u::us,.cons r t,f=>by
  rw[List.all_cons,x5]at f
  rw[rE,rE,yN r f.1,vp t f.2]
theorem sd {A:Around}{s:Shared}{x:V}{v:Value} (rx:RelV x v) (fx:lD x=true):∀ {xs:List V}{us:List Value},Vals xs us->xs.all lD=true -> ∀u∈us,SeqAt.EqAt A s u v (gL x u)
 | _,_,.nil,_=>fun u hu=>by cases hu
 | y::xs,u::us,.cons r t,f=>fun u' hu=>by
  rw[List.all_cons,x5]at f
  rcases bq.mp hu with rfl | hu
  ·rw[yN r f.1];exact Yk r rx f.1 fx
  ·exact sd rx fx t f.2 u' hu
def zD (x:V) (xs:List V):Bool:=xs.any fun y=>oR y x
def uh (K:PySem.W.Frag) (neg:Bool):R2:=fun x y H Q=>∃p xs,y = .ref p/\(aj K H p xs\/aJ K H p xs)/\lD x=true/\xs.all lD=true/\Q (.bl (if neg then !zD x xs else zD x xs)) H
theorem Bt:cA X (compareOp .In) (uh X.K false):=by
 intro pins s σ H x y v u Q I rx ry h
 obtain⟨p,xs,rfl,hq,fx,fs,q⟩:=h
 cases ry
 rcases hq with hq | hq
 ·obtain⟨its,r,pl,hz⟩:=I.list hq
  refine SeqAt.in_listAt (gL x) pl.isList (fun w hw=>sd rx fx r fs w (by simpa using hw)) ⟨.bl _,H,I,rfl,?_⟩
  rw[show its.toArray.any (gL x)=its.any (gL x) by simp,vp r fs]
  exact q
 ·obtain⟨its,r,pl,hz⟩:=I.tuple hq
  refine SeqAt.in_tupleAt (gL x) pl (fun w hw=>sd rx fx r fs w (by simpa using hw)) ⟨.bl _,H,I,rfl,?_⟩
  rw[show its.toArray.any (gL x)=its.any (gL x) by simp,vp r fs]
  exact q
theorem u0:cA X (compareOp .NotIn) (uh X.K true):=by
 intro pins s σ H x y v u Q I rx ry h
 obtain⟨p,xs,rfl,hq,fx,fs,q⟩:=h
 cases ry
 rcases hq with hq | hq
 ·obtain⟨its,r,pl,hz⟩:=I.list hq
  refine SeqAt.notIn_listAt (gL x) pl.isList (fun w hw=>sd rx fx r fs w (by simpa using hw)) ⟨.bl _,H,I,rfl,?_⟩
  rw[show its.toArray.any (gL x)=its.any (gL x) by simp,vp r fs]
  exact q
 ·obtain⟨its,r,pl,hz⟩:=I.tuple hq
  refine SeqAt.notIn_tupleAt (gL x) pl (fun w hw=>sd rx fx r fs w (by simpa using hw)) ⟨.bl _,H,I,rfl,?_⟩
  rw[show its.toArray.any (gL x)=its.any (gL x) by simp,vp r fs]
  exact q
theorem iU:df X (.builtin "len") (fun xs H Q=>∃p ys,xs = [.ref p]/\(aj X.K H p ys\/aJ X.K H p ys)/\Q (.int ys.length) H):=by
 intro pins s σ H xs us Q I r h
 obtain⟨p,ys,rfl,hq,q⟩:=h
 obtain⟨u,rfl,rx⟩:=vals1 r
 cases rx
 have hn:=qb
 rcases hq with hq | hq
 ·obtain⟨its,r',pl,hz⟩:=I.list hq
  have hlen:=r'.length
  exact Calls.call_len_list pl.isList (by simp only[cL] <;> omega) ⟨.int ys.length,H,I.tok _,⟨s.toks+1,by rw[cL,hlen]⟩,q⟩
 ·obtain⟨its,r',pl,hz⟩:=I.tuple hq
  have hlen:=r'.length
  exact len_tuple pl (by simp only[cL] <;> omega) ⟨.int ys.length,H,I.tok _,⟨s.toks+1,by rw[cL,hlen]⟩,q⟩
theorem Uu:df X (.builtin "len") (fun xs H Q=>∃z,xs = [.str z]/\z.length<=sizeLine/\Q (.int z.length) H):=by
 intro pins s σ H xs us Q I r h
 obtain⟨z,rfl,hz,q⟩:=h
 obtain⟨u,rfl,t,rfl⟩:=vals1 r
 have hn:=qb
 exact len_str (by omega) ⟨.int z.length,H,I.tok _,⟨_,rfl⟩,q⟩
theorem u6:df X (.type "list") (fun xs H Q=>∃p ys,xs = [.ref p]/\(aj X.K H p ys\/aJ X.K H p ys) /\ ∀l,H l=none->Q (.ref l) (upd H l (.lst ys))):=by
 intro pins s σ H xs us Q I r h
 obtain⟨p,ys,rfl,hq,q⟩:=h
 obtain⟨u,rfl,rx⟩:=vals1 r
 cases rx
 have fin:∀ (its:List Value),Vals ys its->ys.length<=sizeLine -> ∀ (h':Heap) (c':Nat),(∀b o',s.heap.get? b=some o'->h'.get? b=some o') ->
   h'.get? s.heap.objs.size=some { cls:= .type "list", dict:=none,data:= .seq its.toArray c',slots:= #[] }->EP X pins σ Q (.ref s.heap.objs.size) { s with heap:=h' }:=fun its r' hz h' c' kp e =>
  ⟨.ref s.heap.objs.size,_,I.laid (t':=s.toks) kp (aN _) (show bt X.prog X.w _ h' _ (.lst ys) from⟨hz,its,c',r',e⟩),rfl,q _ (I.ar.fresh (aN _))⟩
 rcases hq with hq | hq
 ·obtain⟨its,r',pl,hz⟩:=I.list hq
  have hlen:=r'.length
  obtain⟨o,ho,hc,n,hd⟩:=pl.isList
  exact call_list_seq p (.inl rfl) ho hc hd (fun h' c' kp e=>fin its r' hz h' c' kp e) (by simp only[cL] <;> omega)
 ·obtain⟨its,r',pl,hz⟩:=I.tuple hq
  have hlen:=r'.length
  obtain⟨o,ho,hc,n,hd⟩:=pl
  exact call_list_seq p (.inr rfl) ho hc hd (fun h' c' kp e=>fin its r' hz h' c' kp e) (by simp only[cL] <;> omega)
theorem j':df X (.type "tuple") (fun xs H Q=>∃p ys,xs = [.ref p]/\((aj X.K H p ys /\ ∀l,H l=none->Q (.ref l) (upd H l (.tup ys)))\/(aJ X.K H p ys/\Q (.ref p) H))):=by
 intro pins s σ H xs us Q I r h
 obtain⟨p,ys,rfl,h⟩:=h
 obtain⟨u,rfl,rx⟩:=vals1 r
 cases rx
 rcases h with⟨hq,q⟩|⟨hq,q⟩
 ·obtain⟨its,r',pl,hz⟩:=I.list hq
  have hlen:=r'.length
  refine call_tuple_list pl.isList (fun h' kp=>?_) (by simp only[cL] <;> omega)
  have I1:Inv X pins σ H { s with heap:=h' }:=I.kept (t':=s.toks) kp
  have I2:Inv X pins σ (upd H h'.objs.size (.tup ys)) { s with heap:=h'.push { cls:= .type "tuple", data:= .seq its.toArray } }:=
   I1.laid (t':=s.toks) (fun b o e=>bj _ e) (aN _) (show bt X.prog X.w _ _ _ (.tup ys) from⟨hz,its,r',qo.new _ _⟩)
  exact⟨.ref h'.objs.size,_,I2,rfl,q _ (I1.ar.fresh (aN _))⟩
 ·obtain⟨its,r',pl,hz⟩:=I.tuple hq
  exact call_tuple_same pl ⟨.ref p,H,I,rfl,q⟩
def PM (K:PySem.W.Frag) (T:String) (x:V) (H:Hp):Prop:=match x with
 | .str _=>T = "str"
 | .int _=>T = "int"
 | .ref p=>(T = "list" /\ ∃xs,aj K H p xs)\/(T = "tuple" /\ ∃o,K.lookup p=some o/\o.cls = .type "tuple" /\ o.dict=none) \/
   (T = "dict" /\ ((∃kvs,H p=some (.dK kvs)) \/ ∃kvs,H p=some (.dT kvs)))\/(T = "set" /\ ∃S n,H p=some (.set S n))\/(T = "tuple" /\ ∃xs,Rd H p (.tup xs))
 | _=>False
theorem Yl {pins:List (Addr×Obj)}{σ:St}{H:Hp}{s:Shared}{T:String}{x:V}{v:Value} (I:Inv X pins σ H s) (r:RelV x v) (ty:PM X.K T x H) :
  s.TypeIs v T /\ ∀a,v = .ref a -> ∃ob,s.heap.get? a=some ob/\ob.dict=none:=by
 cases x with
 | str z =>
  obtain⟨t,rfl⟩:=r
  cases (show T = "str" from ty)
  exact⟨typeIs_str s z t,fun _ e=>nomatch e⟩
 | int i =>
  obtain⟨t,rfl⟩:=r
  cases (show T = "int" from ty)
  exact⟨typeIs_int s i t,fun _ e=>nomatch e⟩
 | ref p =>
  cases r
  rcases ty with⟨rfl,xs,hq⟩|⟨rfl,o,hk,hc,hd⟩|⟨rfl,hk⟩|⟨rfl,S,n,hk⟩|⟨rfl,xs,hq⟩
  ·obtain⟨its,_,pl,_⟩:=I.list hq
   refine⟨pl.isList.typeIs,fun a e=>?_⟩
   cases e
   obtain⟨o,n,e,c,hd,_⟩:=pl
   exact⟨o,e,hd⟩
  ·refine⟨⟨o,I.a7 p o hk,hc⟩,fun a e=>?_⟩
   cases e
   exact⟨o,I.a7 _ o hk,hd⟩
  ·have z:∃o,s.heap.get? p=some o/\o.ExactDict:=by
    rcases hk with⟨kvs,hk⟩|⟨kvs,hk⟩
    ·obtain⟨_,_,_,_,o,_,_,e,ex,_⟩:=I.ar p _ hk
     exact⟨o,e,ex⟩
    ·obtain⟨_,_,_,_,o,_,_,e,ex,_⟩:=I.ar p _ hk
     exact⟨o,e,ex⟩
   obtain⟨o,e,ex⟩:=z
   refine⟨⟨o,e,ex.1⟩,fun a e2=>?_⟩
   cases e2
   exact⟨o,e,ex.2.1⟩
  ·obtain⟨o,_,_,_,e,ex,_⟩:=I.ar p _ hk
   refine⟨⟨o,e,ex.1⟩,fun a e2=>?_⟩
   cases e2
   exact⟨o,e,ex.2.1⟩
  ·obtain⟨_,_,_,o,e,c,_,_,hd⟩:=hq.ok I.ar
   refine⟨⟨o,e,c⟩,fun a e2=>?_⟩
   cases e2
   exact⟨o,e,hd⟩
 | _=>exact False.elim ty
def tBM (K:PySem.W.Frag) (T:String) (r:V->List V->Hp->VK->Prop) (to:TE) (t:TA):TE:=fun σ H Q=>to σ H fun x H1=>PM K T x H1/\t σ H1 fun xs H2=>r x xs H2 Q
variable {o e : Expr} {es : List Expr} {to : TE} {t : TA} {name : Str} {apos qq : Pos} {T id : String} {r : V -> List V -> Hp -> VK -> Prop}
theorem jt (pa:PlainAttrs T) (slot:Slot T name id) (hty:typeOf (.builtin id)=pure (.type "method_descriptor")) (hm:PL X id r) (ho:PE X o to) (ha:PA X (e::es) t)
  (Y4:attributeBase o name X.env (eval o X.env)=eval o X.env:=by rfl)
  (C7:((backTo qq (starEach (e::es) X.env)).all (fun x=>!x.1) && (backToKw qq (keywordEach [] X.env)).all (fun x=>x.1.isSome)
   && decide ((e::es).length+([]:List Keyword).length+(if ([]:List Keyword).isEmpty then 0 else 1) < 30))=true:=by rfl)
  (Y5:(apos.endLine==qq.line)=true:=by rfl) (hs:starEach (e::es) X.env=(false,eval e X.env)::starEach es X.env:=by rfl) (Ym:(backTo qq (starEach es X.env)).any (·.1)=false:=by rfl) :
  PE X (.Call (.Attribute o name apos) (e::es) [] qq) (tBM X.K T r to t):=by
 intro pins s σ H Q I h
 refine wpAny_Call_method_late Y4 C7 Y5 rfl (au (ho pins s σ H _ I h) fun v s1 ⟨x,H1,I1,r1,ty,q1⟩=>?_)
 obtain⟨h1,h2⟩:=Yl I1 r1 ty
 refine⟨T,id,pa,slot,hty,h1,h2,?_⟩
 have hA:=ha qq pins s1 σ H1 _ I1 q1
 rw[hs]at hA ⊢
 refine Calls.callWith_builtin (by show(false || (backTo qq (starEach es X.env)).any (·.1))=false;rw[Ym] <;> rfl) (Calls.evalArgs_plain ?_)
 exact au hA fun us s2 ⟨vs,H2,I2,r2,q2⟩=>hm pins s2 σ H2 x vs v us Q I2 r1 r2 q2
end
end L2
namespace L2
open PySem PySem.Spec PyProof.Rows
def FV (X:Cx) (id:String) (r:V->List V->Hp->VK->Prop):Prop:=
 ∀ (pins:List (Addr×Obj)) (s:Shared) (σ:St) (H:Hp) (x:V) (xs:List V) (v:Value) (us:List Value) (Q:VK),Inv X pins σ H s->RelV x v->Vals xs us->r x xs H Q ->
  wpAny (model X.prog X.w) X.A (call (.builtin id) (v::us)) (EP X pins σ Q) X.xe s
theorem Vals.one:∀ {x:V}{us:List Value},Vals [x] us -> ∃u,us = [u]/\RelV x u
 | _,_,.cons r .nil=>⟨_,rfl,r⟩
theorem Vals.two:∀ {x y:V}{us:List Value},Vals [x,y] us -> ∃u v,us = [u,v]/\RelV x u/\RelV y v
 | _,_,_,.cons r (.cons q .nil)=>⟨_,_,rfl,r,q⟩
theorem Vals.eraseIdx:∀ {xs:List V}{us:List Value} (i:Nat),Vals xs us->Vals (xs.eraseIdx i) (us.eraseIdx i)
 | _,_,_,.nil=>.nil
 | _,_,0,.cons _ t=>t
 | _,_,i+1,.cons r t=>.cons r (Vals.eraseIdx i t)
theorem Vals.reverse {xs:List V}{us:List Value} (h:Vals xs us):Vals xs.reverse us.reverse:=by
 induction h with
 | nil=>exact .nil
 | cons r t ih=>rw[JK,JK];exact Vals.append ih (.cons r .nil)
theorem Lb {α:Type}:∀ (l:List α) (i:Nat),(l.eraseIdx i).length<=l.length
 | [],_=>aN _
 | _::_,0=>nN _
 | _::r,i+1=>Nat.succ_le_succ (Lb r i)
section
variable {X : Cx} {pins : List (Addr × Obj)} {σ : St} {H : Hp} {s : Shared} {l b : Addr} {xs ys zs : List V}
theorem Inv.NZ {its its':List Value}{n:Nat}{f:Array Value->Array Value}{t':Nat} (I:Inv X pins σ H s) (hH:H l=some (.lst xs))
  (e:s.heap.get? l=some { cls:= .type "list", data:= .seq its.toArray n }) (hf:f its.toArray=its'.toArray) (hv:Vals ys its') (hz:ys.length<=sizeLine) :
  Inv X pins σ (upd H l (.lst ys)) { s with heap:=s.heap.update l (Obj.mapSeq f),toks:=t' }:=by
 have q:=PySem.IsL.update e f
 rw[hf]at q
 refine I.write (x:=l) (e:=l) (by rw[hH];exact trivial) (.inl rfl) (fun b' u hb hu=>(jg s.heap (Obj.mapSeq f) (aO hb)).trans hu) ⟨_,q⟩ ?_
 exact⟨hz,its',_,hv,q⟩
theorem Inv.C8 {its:List Value}{t':Nat} (I:Inv X pins σ H s) (hv:Vals ys its) (hz:ys.length<=sizeLine) :
  Inv X pins σ (upd H s.heap.objs.size (.lst ys)) { s with heap:=s.heap.push { cls:= .type "list", data:= .seq its.toArray },toks:=t' }:=
 I.laid (fun _ _ q=>bj _ q) (aN _) ⟨hz,its,0,hv,dj _ rfl⟩
theorem Inv.fresh (I:Inv X pins σ H s):H s.heap.objs.size=none:=I.ar.fresh (aN _)
theorem Inv.vX (I:Inv X pins σ H s) (hH:H l=some (.lst xs)):xs.length<=sizeLine /\ ∃ (its:List Value) (n:Nat),Vals xs its/\xs.length=its.length/\s.heap.get? l=some { cls:= .type "list", data:= .seq its.toArray n }:=by
 obtain⟨z,its,n,r,e⟩:=I.ar l _ hH
 exact⟨z,its,n,r,r.length,e⟩
end
section
variable {X : Cx}
def Xf:V->List V->Hp->VK->Prop:=fun x vs H Q=>∃l xs y,x = .ref l/\vs = [y]/\H l=some (.lst xs)/\xs.length < sizeLine/\Q .aD (upd H l (.lst (xs ++ [y])))
theorem kc:FV X "list.append" Xf:=by
 intro pins s σ H x vs v us Q I rx rv h
 obtain⟨l,xs,y,rfl,rfl,hH,hz,q⟩:=h
 cases rx
 obtain⟨u,rfl,ru⟩:=rv.one
 obtain⟨z,its,n,r,hl,e⟩:=I.vX hH
 refine JL F.slot_list_append ⟨_,e,rfl⟩ F.entry_list_append (F.args_list_append_2 _ _) (PySem.list_append l its.toArray n u (by rw[cL];omega)) ⟨e,?_⟩
 refine⟨.aD,_,I.NZ (its':=its ++ [u]) hH e (by simp) (r.append (.cons ru .nil)) ?_,rfl,q⟩
 rw[c9,j9]
 omega
def Yn:V->List V->Hp->VK->Prop:=fun x vs H Q=>∃l xs i k y,x = .ref l/\vs = [.int i]/\H l=some (.lst xs) /\ -(2 ^ 63)<=i/\i < 2 ^ 63/\seqIndex? i xs.length=some k/\xs[k]? = some y/\Q y (upd H l (.lst (xs.eraseIdx k)))
theorem LL:FV X "list.pop" Yn:=by
 intro pins s σ H x vs v us Q I rx rv h
 obtain⟨l,xs,i,k,y,rfl,rfl,hH,h1,h2,hk,hy,q⟩:=h
 cases rx
 obtain⟨u,rfl,ru⟩:=rv.one
 obtain⟨t,rfl⟩:=ru
 obtain⟨z,its,n,r,hl,e⟩:=I.vX hH
 obtain⟨w,hw,gx⟩:=r.get hy
 refine JL F.slot_list_pop ⟨_,e,rfl⟩ F.entry_list_pop (F.args_list_pop_2 _ _)
  (MeetsSeq.list_pop_at l its.toArray n i t k w (fitsIndex_both h1 h2) (by rw[cL,<-hl];exact hk) (by rw[<-akP];exact hw) (by rw[cL];omega)) ⟨e,?_⟩
 refine⟨y,_,I.NZ (its':=its.eraseIdx k) hH e ?_ (r.eraseIdx k) ?_,gx,q⟩
 ·show its.toArray.eraseIdxIfInBounds k=(its.eraseIdx k).toArray
  rw[List.eraseIdxIfInBounds_toArray]
 ·have:=Lb xs k
  omega
def N0:R2:=fun x y H Q=>∃l b xs zs,x = .ref l/\y = .ref b/\H l=some (.lst xs)/\H b=some (.lst zs)/\xs.length+zs.length<=sizeLine /\ ∀p,H p=none->Q (.ref p) (upd H p (.lst (xs++zs)))
theorem qd:cA X (binaryOp .Add) N0:=by
 intro pins s σ H x y v u Q I rx ry h
 obtain⟨l,b,xs,zs,rfl,rfl,hH,hB,hz,q⟩:=h
 cases rx
 cases ry
 obtain⟨z,its,n,r,hl,e⟩:=I.vX hH
 obtain⟨z2,tE,n2,r2,iO,e2⟩:=I.vX hB
 refine PySem.P.add_list e e2 ?_ (by rw[cL,cL];omega)
 have ea:its.toArray++tE.toArray=(its++tE).toArray:=by simp
 rw[ea]
 exact⟨.ref _,_,I.C8 (t':=s.toks) (r.append r2) (by rw[c9];omega),rfl,q _ I.fresh⟩
end
section
variable {prog : Program} {w : World} {A : Around} {E : Value -> Shared -> Prop} {s : Shared}
set_option maxRecDepth 100000 in
end
end L2
namespace PN
open PySem PySem.W PySem.Calls PyProof.Rows
theorem Um {P:Params}{h:Heap}:∀ (ns:List Int) (vs:List Value),WellAll P h vs (ns.map WData.int)->IntsAre vs ns:=by
 intro ns
 induction ns with
 | nil =>
  intro vs w
  rw[Tu]at w
  cases w
  exact .nil
 | cons n ns ih =>
  intro vs w
  rw[cD]at w
  cases w with
  | cons a b =>
   cases a
   exact .cons _ _ (ih _ b)
theorem Vv {l:OpenLaw}{n:Nat} (hn:l.most=some n) {P:Params}{h:Heap}{args:List WData}{vals:List Value}
  (y4:l.row.toRowW.claim.pre args=true) (zE:WellAll P h vals args) :
  ∃a vs ns,vals = [Value.ref a]/\args = [WData.list (ns.map WData.int)]/\h.get? a=some { cls:= .type "list", data:= .seq vs.toArray }/\IntsAre vs ns/\ns.length<=n:=by
 have hsh:WShape.hasAll [] args [.list .int]=true:=(pre_splitW y4).1
 have hc:l.pre.holds [] { args:=args }=true:=(pre_splitW y4).2
 obtain⟨d,r,rfl,h1,h2⟩:=hasAllW_cons hsh
 obtain rfl:=hasAllW_nil h2
 obtain⟨xs,rfl,h3⟩:=hasW_list h1
 obtain⟨ns,rfl⟩:=items_int h3
 have hlen:ns.length<=n:=by
  unfold OpenLaw.pre at hc
  have h4:(WTm.not (.lt (.lit (.int (n:Int))) (.len (.arg 0)))).holds [] { args:= [.list (ns.map .int)] }=true:=by
   have h4:=(holds_andW hc).1
   rw[hn]at h4
   exact h4
  have h5:=condW_of h4 (w_not (w_lt w_lit (w_len_list (w_arg rfl))))
  rw[aE]at h5
  refine Nat.le_of_not_lt fun q=>?_
  have q':(n:Int) < ((ns.length:Nat):Int):=by omega
  first
   | (rw[gO q']at h5;exact absurd h5 (by decide))
   | (simp at h5;omega)
 cases zE with
 | cons w1 w2 =>
  cases w2
  cases w1 with
  | list ho aag=>exact⟨_,_,ns,rfl,rfl,ho,Um ns _ aag,hlen⟩
theorem Vw (l:OpenLaw) (args:List WData):l.row.toRowW.claim.post args (.bool true) args=true:=
 postW_of (r:=l.row.toRowW) (X:=(true==true))
  (show WShape.has [] (.bool true) .bool=true by first | rfl | decide | simp[WShape.has,WShape.arms,WShape.armsAll])
  (show(WTm.eq .res (.lit (.bool true))).value [] { args:=args,res:=some (.bool true),after:=args }=some (.bool (true==true)) from w_eq_bool (w_res rfl) w_lit) rfl
theorem UG {l:OpenLaw}{n:Nat}{q:Program}{loose:List Str}{XP:(Str->Option Value)->Heap->Prop}{YP:World->Heap->Prop}{d:DefRec}
  (hn:l.most=some n) (wQ:d.params.defaults = [])
  (call:∀ (w:World) (cp aY:Shared) (mg mb:Str->Option Value) (fa:Addr) (o:Obj) (pm cd doc:Value) (a:Addr) (vs:List Value) (ns:List Int),
   Ground q loose [] XP w cp mg mb aY.heap->YP w aY.heap ->
   aY.heap.get? fa=some o->o.data = .func (docDef d.name d.params d.body d.scope pm cd doc)->aY.heap.CodeRec cd d.name->mg d.name=some (.ref fa) ->
   aY.heap.get? a=some { cls:= .type "list", data:= .seq vs.toArray }->IntsAre vs ns->ns.length<=n->aY.gens = #[] ->
   codeAny (model l.prog w) callerA (.call (.ref fa) ⟨[.ref a],[]⟩) (fun r s'=>r = .ok (.ret (.bool true))/\OldK aY.heap s'.heap/\s'.os=aY.os/\AllBare s'.gens) aY) :
  WalkO q loose XP YP l.row.toRowW d [] (fun f vs=>PySem.call f vs):=by
 intro w cp aY mg mb G Y fa o pm cd doc dV kV ho hd fq hD qN hg args vals as y4 vY ui zE hlo
 obtain rfl:dV = .none:=Dflts.none hD wQ
 obtain rfl:kV = .none:=Dflts.noKw hD
 obtain⟨a,vs,ns,rfl,rfl,C9,hints,hlen⟩:=Vv hn y4 zE
 refine enter_call (pH (call w cp aY mg mb fa o pm cd doc a vs ns G Y ho (fd_plain hd) fq qN C9 hints hlen hg) fun r s' hq=>?_)
 obtain⟨rfl,h2,h3,h4⟩:=hq
 exact⟨.inl ⟨.bool true,.bool true,[],rfl,fun _=>rfl,.bool true,Vw l _,fun _=>⟨List.Pairwise.nil,fun _ hm=>(nomatch hm)⟩⟩,h2,h3,h4⟩
end PN
namespace L2
open PySem PySem.Spec PyProof.Rows
theorem Lc:∀ {vs:List Value}{ns:List Int},IntsAre vs ns->Vals (ns.map V.int) vs
 | _,_,.nil=>.nil
 | _,_,.cons n t h=>.cons ⟨t,rfl⟩ (Lc h)
def Dc (H:Hp):Prop:= ∀b,H b=none \/ ∃o xs,H b=some (.ip o (.lst xs))
theorem Wc {P:Program}{w:World}{K:PySem.W.Frag}{mg mb:Str->Option Value}{CX:jX}{k:Nat}{fa a:Addr}{fd:FuncData}{x:Str}{sp:Sp}{aY:Shared}{vs:List Value}{ns:List Int}
  (KX:K.In aY.heap) (oS:aY.heap.Ns mainGlobals mg) (hb:aY.heap.Ns builtinsNs mb) (hbb:∀x:Str,x ≠ "__name__" -> mb x=bootBuiltins x) (N1:aY.heap.NoLimit) (hg:aY.gens = #[])
  (ha:aY.heap.get? a=some { cls:= .type "list", data:= .seq vs.toArray }) (hi:IntsAre vs ns) (hl:ns.length<=sizeLine) (hr:aT k callerA)
  (F:∀base:Heap,K.In base->base.Ns mainGlobals mg->aG P w K mg base CX k fa fd [x] sp) (Y6:∀ (s:Shared) (u:Value),BindsTo s fd ⟨[u],[]⟩ [(x,u)])
  (jC:∀H:Hp,Dc H->aj K H a (ns.map V.int)->sp [.ref a] H (fun v _=>v = .bl true) fun _ _ _=>False)
  (FX:∀H e s',CX [] H aY (fun _ _ _=>False) e s'->False) :
  codeAny (model P w) callerA (.call (.ref fa) ⟨[.ref a],[]⟩) (fun r s'=>r = .ok (.ret (.bool true))/\OldK aY.heap s'.heap/\s'.os=aY.os/\AllBare s'.gens) aY:=by
 have rv:=Lc hi
 have aah:=hi.length
 have core:∀H:Hp,Dc H->aj K H a (ns.map V.int)->cq P w H aY.heap->(∀b,H b≠none->b=a)->(H a≠none->K.lookup a=none) ->
   codeAny (model P w) callerA (.call (.ref fa) ⟨[.ref a],[]⟩) (fun r s'=>r = .ok (.ret (.bool true))/\OldK aY.heap s'.heap/\s'.os=aY.os/\AllBare s'.gens) aY:=by
  intro H hO hS ar hA hK
  have Mo:∀ {b:Addr}{o:Obj},aY.heap.get? b=some o->H b=none->(m3 aY.heap H).get? b=some o:=fun e n=>V8 e n
  have wO:∀ {b:Addr}{o:Obj}{es:Array DictEntry}{ep:Nat},aY.heap.get? b=some o->o.data = .dict es ep->H b=none:=fun {b o es ep} e d=>by
   cases q:H b with
   | none=>rfl
   | some u =>
    have e':b=a:=hA b (by rw[q];simp)
    subst e'
    rw[ha]at e;cases e
    have d':Data.seq vs.toArray _=Data.dict es ep:=d
    cases d'
  have zF:∀ {b:Addr}{m:Str->Option Value},aY.heap.Ns b m->(m3 aY.heap H).Ns b m:=fun {b m} ⟨o,es,ep,e,d,r⟩=>⟨o,es,ep,Mo e (wO e d),d,r⟩
  have PQ:K.In (m3 aY.heap H):=fun b o e=>Mo (KX b o e) (by
   cases q:H b with
   | none=>rfl
   | some u =>
    have e':b=a:=hA b (by rw[q];simp)
    subst e'
    rw[hK (by rw[q];simp)]at e;cases e)
  have hM:Mod K mg (m3 aY.heap H):=⟨PQ,zF oS,⟨mb,zF hb,hbb⟩,let ⟨mc,h1,h2⟩:=N1;⟨mc,zF h1,h2⟩⟩
  have e0:m5 P w K mg (m3 aY.heap H) callerA [] aY H:=⟨rfl,hM,fun b o e=>W7 e,Nat.le_of_eq (Vp _ _),trivial,fun b hb=>absurd (show b∈([]:List Addr) from hb) (by simp),ar,.of_eq hg⟩
  refine pH ((F _ PQ (zF oS)).run callerA [] aY H ⟨[.ref a],[]⟩ [.ref a] [.ref a] _ _ hr e0 (Y6 aY (.ref a)) (.cons rfl .nil) (jC H hO hS)) fun r s' h=>?_
  cases r with
  | error e=>exact(FX H e s' h).elim
  | ok fl =>
   cases fl with
   | next=>exact False.elim h
   | brk=>exact False.elim h
   | cont=>exact False.elim h
   | ret u =>
    obtain⟨v,H',os,bare,un,aai,r',q⟩:=h
    have q':v = .bl true:=q
    subst q'
    obtain rfl:u=Value.bool true:=r'
    refine⟨rfl,OldK.of_keep fun b o e=>?_,os,bare⟩
    cases q:H b with
    | none=>exact un.keep b o e q (by intro z;exact absurd (show b∈([]:List Addr) from z) (by simp)) (by simp)
    | some u =>
     rcases hO b with z | ⟨ob,xs,z⟩
     ·rw[q]at z;cases z
     ·have z2:=un.iY b ob _ z
      obtain⟨e1,_⟩:=ar b _ z
      obtain⟨e2,_⟩:=aai b _ z2
      rw[e]at e1;cases e1
      exact e2
 cases hk:K.lookup a with
 | some o =>
  have e:=KX a o hk
  rw[ha]at e
  cases e
  refine core (fun _=>none) (fun _=>.inl rfl) (.inr ⟨_,vs.toArray,_,hk,rfl,rfl,rfl,by rw[cL,aah];exact hl,by simpa using rv⟩) (fun b u z=>by have z':(none:Option HO)=some u:=z;cases z') (fun b z=>absurd rfl z) fun z=>absurd rfl z
 | none =>
  refine core (fun b=>if b=a then some (.ip { cls:= .type "list", data:= .seq vs.toArray } (.lst (ns.map V.int))) else none) (fun b=>?_) (.inl (.inr ⟨{ cls:= .type "list", data:= .seq vs.toArray },aA rfl⟩)) (fun b u z=>?_) (fun b z=>?_) fun _=>hk
  ·by_cases hb:b=a
   ·exact .inr ⟨_,_,aA hb⟩
   ·exact .inl (aq hb)
  ·by_cases hb:b=a
   ·have z':=(aA hb).symm.trans z
    cases z'
    subst hb
    exact⟨ha,by rw[aE];exact hl,vs,_,rv,ha⟩
   ·have z':=(aq hb).symm.trans z
    cases z'
  ·by_cases hb:b=a
   ·exact hb
   ·exact absurd (aq hb) z
end L2
namespace L2
open PySem PySem.Spec PyProof.Rows
theorem Xg {l:PySem.W.OpenLaw}{n k:Nat}{q:Program}{loose:List Str}{XP:(Str->Option Value)->Heap->Prop}{YP:World->Heap->Prop}{d:DefRec}{K:Params->PySem.W.Frag}{CX:World->jX}{sp:World->Sp}{x:Str}
  (hn:l.most=some n) (zG:n<=sizeLine) (wQ:d.params.defaults = []) (hr:aT k callerA)
  (hY:∀ (w:World) (h:Heap),YP w h->(K w.params).In h)
  (F:∀ (w:World) (mg:Str->Option Value) (fa:Addr) (h:Heap),(K w.params).In h->h.Ns mainGlobals mg->mg d.name=some (.ref fa) ->
   ∃fd:FuncData,(∀ (s:Shared) (u:Value),BindsTo s fd ⟨[u],[]⟩ [(x,u)]) /\
    ∀base:Heap,(K w.params).In base->base.Ns mainGlobals mg->aG l.prog w (K w.params) mg base (CX w) k fa fd [x] (sp w))
  (jC:∀ (w:World) (H:Hp) (a:Addr) (ns:List Int),ns.length<=n->Dc H->aj (K w.params) H a (ns.map V.int)->sp w [.ref a] H (fun v _=>v = .bl true) fun _ _ _=>False)
  (FX:∀ (w:World) (H:Hp) (s:Shared) (e:Value) (s':Shared),CX w [] H s (fun _ _ _=>False) e s'->False) :
  PySem.W.WalkO q loose XP YP l.row.toRowW d [] (fun f vs=>PySem.call f vs):=by
 refine PN.UG hn wQ fun w cp aY mg mb fa o pm cd doc a vs ns G Y ho hd fq qN C9 hints hlen hg=>?_
 have KX:=hY w _ Y
 obtain⟨fd,hb,hF⟩:=F w mg fa _ KX G.T.g qN
 exact Wc KX G.T.g G.T.b G.T.builtins G.T.nolimit hg C9 hints (cK hlen zG) hr hF hb (fun H hO hS=>jC w H a ns hlen hO hS) fun H e s'=>FX w H aY e s'
end L2
namespace L2
open PySem PySem.Spec PyProof.Rows
def inClass (s:Stmt) (j:Nat):Stmt:=match s with
 | .ClassDef _ _ _ body _ _ _ _ _ _ _=>body.getD j (.Pass ⟨0,0,0,0⟩)
 | _=>.Pass ⟨0,0,0,0⟩
def b4 (s:Stmt):Arguments:=match s with
 | .FunctionDef _ a _ _ _ _ _ _ _ _=>a
 | _=>{ posonlyargs:= [],args:= [],vararg:=none,kwonlyargs:= [],kw_defaults:= [],kwarg:=none,defaults:= [] }
def aQ (s:Stmt):List Stmt:=match s with
 | .FunctionDef _ _ b _ _ _ _ _ _ _=>b
 | _=>[]
def ay (s:Stmt):Scope:=match s with
 | .FunctionDef _ _ _ _ _ _ sc _ _ _=>sc
 | _=>{ kind:= .function,names:= [],isGenerator:=false,isCoroutine:=false }
abbrev aL:jX:=fun _ _ _ _ _ _=>False
abbrev E0:XK:=fun _ _ _=>False
theorem aV {X:Cx}:Passes aL X E0:=fun _ _ _ _ _ _ _ h=>h.elim
structure aZ (K:PySem.W.Frag) (x qual:Str) (st:Stmt) (f:Addr) (fd:FuncData):Prop where
 ex:∃ (oc:Value) (od:Option Addr) (kV doc pm:Value) (an:Option Addr) (cdv ct:Value) (lR:Array (Option Value)),
  fd=PySem.W.fnOf x qual (b4 st) (aQ st) (ay st) .none kV doc pm an cdv ct/\K.lookup f=some ⟨oc,od,.func fd,lR⟩/\PySem.W.codeIn K cdv qual=true
 kp:PySem.W.keepIn K (.ref f)=true
section
variable {P : Program} {w : World} {K : PySem.W.Frag} {mg : Str -> Option Value} {base : Heap}
theorem aZ.ok {x qual:Str}{st:Stmt}{f:Addr}{fd:FuncData}{N ps:List Str}{k:Nat}{sp:Sp} (F:aZ K x qual st f fd) (S:bZ N ps (ay st)) (len:∀vs H Q E,sp vs H Q E->vs.length=ps.length)
  (mU:∀ (cdv:Value) (A:Around) (outer:List Env) (s:Shared) (H:Hp) (vs:List V) (Q:VK) (E:XK),aT k (A.deeper (envOfC qual (ay st) s.heap.objs.size f cdv))->sp vs H Q E ->
   ∃t,gg (i3 aL P w K mg base N qual (ay st) f cdv A outer s H E).zy (aQ st) t/\t { nx:=fun _ H'=>Q .aD H',rt:=Q } (start N vs) H):aG P w K mg base aL (k+1) f fd ps sp:=by
 obtain⟨oc,od,kV,doc,pm,an,cdv,ct,lR,rfl,lk,fq⟩:=F.ex
 refine Nn lk fq S len fun A outer s H vs Q E hr jC=>?_
 obtain⟨t,h,q⟩:=mU cdv A outer s H vs Q E hr jC
 exact⟨t,h.zy,q⟩
theorem aZ.binds {x qual:Str}{st:Stmt}{f:Addr}{fd:FuncData}{ps:List Str} (F:aZ K x qual st f fd)
  (h:∀ (kV doc pm:Value) (an:Option Addr) (cdv ct:Value) (us:List Value),us.length=ps.length->bindArgs (PySem.W.fnOf x qual (b4 st) (aQ st) (ay st) .none kV doc pm an cdv ct) ⟨us,[]⟩=pure (ps.zip us)):Binds K fd ps []:=by
 obtain⟨oc,od,kV,doc,pm,an,cdv,ct,lR,rfl,lk,fq⟩:=F.ex
 exact .all (h kV doc pm an cdv ct)
theorem ck {x qual:Str}{st:Stmt}{f:Addr}{oc:Value}{od an:Option Addr}{lR:Array (Option Value)}{kV doc pm cdv ct:Value} (l:K.lookup f=some ⟨oc,od,.func (PySem.W.fnOf x qual (b4 st) (aQ st) (ay st) .none kV doc pm an cdv ct),lR⟩)
  (c:PySem.W.codeIn K cdv qual=true) (k:PySem.W.keepIn K (.ref f)=true):aZ K x qual st f (PySem.W.fnOf x qual (b4 st) (aQ st) (ay st) .none kV doc pm an cdv ct):=⟨⟨oc,od,kV,doc,pm,an,cdv,ct,lR,rfl,l,c⟩,k⟩
end
section
variable {X : Cx}
theorem pv (i:Nat) {x:Str}{pos:Pos} (hN:X.N[i]? = some x:=by rfl) (hv:FJ X.env.scope x:=by first | exact Or.inl rfl | exact Or.inr (Or.inl rfl)|exact Or.inr (Or.inr rfl)) (hd:(x==("__debug__" : Str))=false:=by decide)
  (fq:(x==("__classdict__" : Str))=false:=by decide):PE X (.Name x pos) (iZ i):=Ya hN hv hd fq
end
theorem eF {c A B:Prop} [Decidable c] (h1:c->A) (h2 : ¬ c->B):if c then A else B:=by
 by_cases h:c
 ·rw[aA h]
  exact h1 h
 ·rw[aq h]
  exact h2 h
def ak (H H':Hp):Prop:= ∀b o,H b=some o->H' b=some o
theorem ak.refl (H:Hp):ak H H:=fun _ _ h=>h
theorem ak.trans {H H1 H2:Hp} (a:ak H H1) (b:ak H1 H2):ak H H2:=fun c o h=>b c o (a c o h)
theorem ak.free {H H':Hp} (e:ak H H') {l:Addr} (h:H' l=Option.none):H l=Option.none:=by
 cases q:H l with
 | none=>rfl
 | some o =>
  rw[e l o q]at h
  cases h
end L2
namespace L2
open PySem PySem.Spec PyProof.Rows
def gI (cells:List (Str×Addr)):List (Str×NameKind)->List (Str×Addr)->List (Str×Addr)
 | [],acc=>acc
 | (n,k)::r,acc=>if k == .free then gI cells r ((n,(cells.lookup n).getD 0)::acc) else gI cells r acc
theorem A4 {env:Env}{scope:Scope} (h:∀n,(n,NameKind.free)∈scope.names -> ∃c,env.cells.lookup n=some c) :
  closureFor scope env=pure (gI env.cells scope.names []):=by
 have key:∀ (names:List (Str×NameKind)) (acc:List (Str×Addr)),(∀n,(n,NameKind.free)∈names -> ∃c,env.cells.lookup n=some c) ->
   (forIn (m:=Sem) names acc fun x r=>match x with | (name,kind)=>if (kind==NameKind.free)=true then (do let a <- cellOf env name;pure (ForInStep.yield ((name,a)::r))) else pure (ForInStep.yield r))=pure (gI env.cells names acc):=by
  intro names
  induction names with
  | nil=>intro acc _;rfl
  | cons x r ih =>
   intro acc hx
   obtain⟨n,k⟩:=x
   rw[List.forIn_cons]
   unfold gI
   by_cases hk:k = .free
   ·subst hk
    obtain⟨c,hc⟩:=hx n ba
    simp only[beq_self_eq_true,pK]
    have e:cellOf env n=pure c:=by unfold cellOf;rw[hc]
    rw[e,hc]
    exact ih _ fun m hm=>hx m (bU _ hm)
   ·have hb:(k==NameKind.free)=false:=by simpa using hk
    simp only[hb,AG,uU]
    exact ih _ fun m hm=>hx m (bU _ hm)
 unfold closureFor
 have:=key scope.names [] h
 show((forIn (m:=Sem) scope.names [] fun x r=>match x with | (name,kind)=>if (kind==NameKind.free)=true then (do let a <- cellOf env name;pure (ForInStep.yield ((name,a)::r))) else pure (ForInStep.yield r)) >>= fun cs=>pure cs)=_
 rw[this]
 rfl
theorem rN:∀ (names:List (Str×NameKind)) (n:Nat) (acc:List (Str×Addr)),cellsFrom n names acc=cellsFrom n names []++acc
 | [],_,_=>rfl
 | (name,kind)::r,n,acc=>by
  unfold cellsFrom
  split
  ·rw[rN r (n+1) ((name,n)::acc),rN r (n+1) [(name,n)],uV];rfl
  ·exact rN r n acc
theorem yn {cells:List (Str×Addr)}:∀ (names:List (Str×NameKind)) (acc:List (Str×Addr)) (x:Str) (c:Addr),(gI cells names acc).lookup x=some c ->
  (acc.lookup x=some c)\/((x,NameKind.free)∈names/\c=(cells.lookup x).getD 0)
 | [],acc,x,c,h=>.inl h
 | (n,k)::r,acc,x,c,h=>by
  unfold gI at h
  split at h
  ·rename_i hk
   have wR:k = .free:=by simpa using hk
   subst wR
   rcases yn r _ x c h with z | ⟨z,e⟩
   ·rw[iy]at z
    cases hb:x==n with
    | true=>rw[hb]at z;cases z;rw[cS.mp hb];exact .inr ⟨ba,rfl⟩
    | false=>rw[hb]at z;exact .inl z
   ·exact .inr ⟨bU _ z,e⟩
  ·rcases yn r _ x c h with z | ⟨z,e⟩
   ·exact .inl z
   ·exact .inr ⟨bU _ z,e⟩
theorem Bu {cells:List (Str×Addr)}:∀ (names:List (Str×NameKind)) (acc:List (Str×Addr)) (x:Str),(∃c,acc.lookup x=some c) -> ∃c,(gI cells names acc).lookup x=some c
 | [],acc,x,h=>h
 | (n,k)::r,acc,x,h=>by
  unfold gI
  split
  ·refine Bu r _ x ?_
   obtain⟨c,h⟩:=h
   rw[iy]
   cases hb:x==n with
   | true=>exact⟨_,rfl⟩
   | false=>exact⟨c,h⟩
  ·exact Bu r _ x h
theorem yt {cells:List (Str×Addr)}:∀ (names:List (Str×NameKind)) (acc:List (Str×Addr)) (x:Str),(x,NameKind.free)∈names -> ∃c,(gI cells names acc).lookup x=some c
 | [],acc,x,h=>by simp at h
 | (n,k)::r,acc,x,h=>by
  unfold gI
  rcases bq.mp h with e | h
  ·cases e
   simp only[beq_self_eq_true,pK]
   exact Bu r _ _ ⟨(cells.lookup n).getD 0,by rw[iy];simp⟩
  ·split
   ·exact yt r _ x h
   ·exact yt r _ x h
theorem yj:∀ (names:List (Str×NameKind)) (n:Nat) (acc:List (Str×Addr)) (x:Str) (c:Addr),(x,c)∈cellsFrom n names acc->(x,c)∈acc\/(x,NameKind.cell)∈names
 | [],_,_,_,_,h=>.inl h
 | (name,kind)::r,n,acc,x,c,h=>by
  unfold cellsFrom at h
  split at h
  ·rename_i hk
   have wR:kind = .cell:=by simpa using hk
   subst wR
   rcases yj r _ _ x c h with z | z
   ·rcases bq.mp z with e | z
    ·cases e;exact .inr ba
    ·exact .inl z
   ·exact .inr (bU _ z)
  ·rcases yj r _ _ x c h with z | z
   ·exact .inl z
   ·exact .inr (bU _ z)
structure cf (N:List Str) (PR:Scope) (N':List Str) (b5:List (Option Nat)) (sc:Scope):Prop where
 kind:sc.kind = .function
 keys:(sc.names.map (·.1)).Nodup
 nd:N'.Nodup
 len:b5.length=N'.length
 fv:∀ (j i:Nat),b5[j]? = some (some i) -> ∃x,N[i]? = some x/\N'[j]? = some x/\sc.names.lookup x=some .free
 free:∀p∈sc.names,p.2 = .free->PR.names.lookup p.1=some .cell\/PR.names.lookup p.1=some .free
theorem rO {α:Type}:∀ {l:List (Str×α)},(l.map (·.1)).Nodup -> ∀ {x:Str}{k:α},(x,k)∈l->l.lookup x=some k
 | (n,v)::r,hn,x,k,h=>by
  obtain⟨h1,h2⟩:=ix.mp hn
  rw[iy]
  rcases bq.mp h with e | hm
  ·cases e;simp
  ·have:(x==n)=false:=by
    rw[nI]
    intro e
    exact h1 (bf.mpr ⟨_,hm,e⟩)
   rw[this]
   exact rO h2 hm
def BM (scope:Scope) (L:Addr) (env:Env):Env:=
 { scope:=relabel scope env,locals:=L,globals:=env.globals,cells:=cellsFrom (L+1) scope.names (gI env.cells scope.names []),qual:=env.qual,func:=none,code:=env.code,frame:=env.frame,builtins:=env.builtins }
theorem Kv {M:Model}{A:Around}{E:Value->Shared->Prop}{s:Shared}{scope:Scope}{globals:Addr}{cl:List (Str×Addr)}{qual:Str}{env:Env}{Q:Env->Shared->Prop}
  (hQ:∀h',h'.Ns s.heap.objs.size (fun _=>none)->(∀b o,s.heap.get? b=some o->h'.get? b=some o)->(∀x c,(x,c)∈cellsFrom (s.heap.objs.size+1) scope.names []->h'.IsCell c none/\s.heap.objs.size < c) ->
   ((cellsFrom (s.heap.objs.size+1) scope.names []).Pairwise fun x y=>x.2≠y.2) ->
   Q { scope:=scope,locals:=s.heap.objs.size,globals:=globals,cells:=cellsFrom (s.heap.objs.size+1) scope.names cl,qual:=qual,func:=none,code:=env.code,frame:=env.frame,builtins:=env.builtins } { s with heap:=h' }) :
  wpAny M A (newFunctionEnv scope globals cl [] qual none .none (some env)) Q E s:=by
 simp only[newFunctionEnv,Option.isSome_some,pK]
 refine af (wpAny_alloc ?_)
 refine af (wpAny_layCells _ (fun name kind cells=>by cases hkc:kind==NameKind.cell <;> simp[hkc]) _ _ _ _ ?_)
 have ok:=cellsFrom_ok scope.names (s.heap.push { cls:= .type "dict", data:= .dict #[] }) (s.heap.objs.size+1) [] ⟨fun _ _ hm=>(nomatch hm),List.Pairwise.nil⟩ (by rw[x6];exact aN _)
 rw[x6]at ok
 rw[show({ s with heap:=s.heap.push { cls:= .type "dict", data:= .dict #[] } }:Shared).heap.objs.size=s.heap.objs.size+1 from x6 ..]
 rw[List.forIn_nil]
 refine af (aB (aB ?_))
 exact hQ _ ((Heap.Ns.new s.heap (.type "dict")).keeps (pushCells_keeps _ _)) (fun b o e=>pushCells_keeps _ _ b o (bj _ e)) (fun x c hm=>⟨(ok.empty x c hm).1,(ok.empty x c hm).2⟩) ok.apart
def cG (X:Cx) (N':List Str) (scope:Scope) (s2:Shared) (H2:Hp) (fp:List Addr):Cx:=
 { X with N:=N',cp:=s2,iI:=H2,env:=BM scope s2.heap.objs.size X.env,outer:=X.stack,stack:=X.stack,ex:=fp,fn:=fun x=>scope.names.lookup x==some .cell,pn:= [],xe:=fun _ _=>False }
theorem A3 {env:Env}:∀ {names:List (Str×NameKind)}{x:Str}{k:NameKind},
  (names.map fun(n,k)=>if (k==NameKind.free && env.scope.kind == .function && env.kindOf n==some .cell) then (n,NameKind.cell) else (n,k)).lookup x=some k ->
  ∃k0,names.lookup x=some k0/\(k=k0\/(k0 = .free/\k = .cell))
 | [],_,_,h=>by simp at h
 | (n,k0)::r,x,k,h=>by
  have ih:=@A3 env r x k
  have h':List.lookup x ((if (k0==NameKind.free && env.scope.kind == .function && env.kindOf n==some .cell)=true then (n,NameKind.cell) else (n,k0))::_)=some k:=h
  rw[iy]
  by_cases hc:(k0==NameKind.free && env.scope.kind == .function && env.kindOf n==some .cell)=true
  ·rw[aA hc,iy]at h'
   cases hx:x==n with
   | true =>
    rw[hx]at h';cases h'
    have:k0 = .free:=by
     have z:=hc
     rw[x5,x5]at z
     simpa using z.1.1
    exact⟨k0,rfl,.inr ⟨this,rfl⟩⟩
   | false=>rw[hx]at h';exact ih h'
  ·rw[aq hc,iy]at h'
   cases hx:x==n with
   | true=>rw[hx]at h';cases h';exact⟨k0,rfl,.inl rfl⟩
   | false=>rw[hx]at h';exact ih h'
theorem A2 {env:Env}:∀ {names:List (Str×NameKind)}{x:Str},names.lookup x=some .free ->
  (names.map fun(n,k)=>if (k==NameKind.free && env.scope.kind == .function && env.kindOf n==some .cell) then (n,NameKind.cell) else (n,k)).lookup x=some .cell \/
  (names.map fun(n,k)=>if (k==NameKind.free && env.scope.kind == .function && env.kindOf n==some .cell) then (n,NameKind.cell) else (n,k)).lookup x=some .free
 | [],_,h=>by simp at h
 | (n,k0)::r,x,h=>by
  have ih:=@A2 env r x
  show List.lookup x ((if (k0==NameKind.free && env.scope.kind == .function && env.kindOf n==some .cell)=true then (n,NameKind.cell) else (n,k0))::_)=_\/List.lookup x ((if (k0==NameKind.free && env.scope.kind == .function && env.kindOf n==some .cell)=true then (n,NameKind.cell) else (n,k0))::_)=_
  rw[iy]at h
  cases hx:x==n with
  | true =>
   rw[hx]at h;cases h
   by_cases hc:(NameKind.free==NameKind.free && env.scope.kind == .function && env.kindOf n==some .cell)=true
   ·rw[aA hc,iy,hx];exact .inl rfl
   ·rw[aq hc,iy,hx];exact .inr rfl
  | false =>
   rw[hx]at h
   by_cases hc:(k0==NameKind.free && env.scope.kind == .function && env.kindOf n==some .cell)=true
   ·rw[aA hc,iy,hx];exact ih h
   ·rw[aq hc,iy,hx];exact ih h
def pick (b5:List (Option Nat)) (σ:St):St:=b5.map fun o=>o.bind fun i=>(σ[i]?).join
section
variable {X : Cx} {pins : List (Addr × Obj)} {σ : St} {H : Hp} {s2 : Shared} {N' : List Str} {b5 : List (Option Nat)} {scope : Scope} {fp : List Addr} {h' : Heap}
theorem yu (I:Inv X pins σ H s2) (S:cf X.N X.env.scope N' b5 scope) {x:Str} (hx:(x,NameKind.free)∈scope.names):∃c,X.env.cells.lookup x=some c:=
 I.ok.has x (S.free _ hx rfl)
theorem U1 (I:Inv X pins σ H s2) (S:cf X.N X.env.scope N' b5 scope) {n:Nat}{x:Str}{c:Addr} (h:(cellsFrom n scope.names (gI X.env.cells scope.names [])).lookup x=some c) :
  ((x,c)∈cellsFrom n scope.names []/\(x,NameKind.cell)∈scope.names)\/((x,NameKind.free)∈scope.names/\X.env.cells.lookup x=some c):=by
 rw[rN,Tv]at h
 cases e:(cellsFrom n scope.names []).lookup x with
 | some d =>
  rw[e]at h
  have z:d=c:=by simpa using h
  subst z
  have m:=nM e
  rcases yj _ _ _ _ _ m with z | z
  ·simp at z
  ·exact .inl ⟨m,z⟩
 | none =>
  rw[e]at h
  have h':(gI X.env.cells scope.names []).lookup x=some c:=by simpa using h
  rcases yn _ _ _ _ h' with z | ⟨z,e2⟩
  ·simp at z
  ·obtain⟨c0,h0⟩:=yu I S z
   rw[h0]at e2
   exact .inr ⟨z,by rw[h0,e2];rfl⟩
theorem LM (I:Inv X pins σ H s2) (S:cf X.N X.env.scope N' b5 scope) (zH:∀b∈fp,fh X pins H b) (hfo:∀b∈fp,∃o,s2.heap.get? b=some o)
  (hn:h'.Ns s2.heap.objs.size (fun _=>none)) (hk:∀b o,s2.heap.get? b=some o->h'.get? b=some o)
  (hc:∀x c,(x,c)∈cellsFrom (s2.heap.objs.size+1) scope.names []->h'.IsCell c none/\s2.heap.objs.size < c) (hp:(cellsFrom (s2.heap.objs.size+1) scope.names []).Pairwise fun x y=>x.2≠y.2) :
  Inv (cG X N' scope s2 H fp) [] (pick b5 σ) H { s2 with heap:=h' }:=by
 have old:∀ {x:Str}{c:Addr},X.env.cells.lookup x=some c->c < s2.heap.objs.size:=fun {x c} e=>let ⟨_,q⟩:=I.cell x c e;q.lt
 have cc:∀ {x:Str}{c:Addr},(cG X N' scope s2 H fp).env.cells.lookup x=some c->((x,c)∈cellsFrom (s2.heap.objs.size+1) scope.names []/\(x,NameKind.cell)∈scope.names)\/((x,NameKind.free)∈scope.names/\X.env.cells.lookup x=some c):=
  fun {x c} e=>U1 I S e
 have isc:∀ {x:Str}{c:Addr},(cG X N' scope s2 H fp).env.cells.lookup x=some c -> ∃v,h'.IsCell c v:=fun {x c} e=>by
  rcases cc e with⟨m,_⟩|⟨_,e0⟩
  ·exact⟨_,(hc x c m).1⟩
  ·obtain⟨v,q⟩:=I.cell x c e0
   exact⟨v,q.keeps hk⟩
 have i8:∀b∈fp,b < s2.heap.objs.size:=fun b hb=>let ⟨_,e⟩:=hfo b hb;aU e
 refine⟨⟨I.ok.mod,S.kind,I.ok.glob,I.ok.blt,aN _,fun x y c e1 e2=>?_,fun x hx=>?_,fun x c hx e=>?_,I.ok.hd,I.ok.frames,.inl rfl,fun b hb=>⟨bh (i8 b hb),fun x c e z=>?_⟩,I.bs,?_,fun b o e hb=>?_,fun b hb nu=>?_,I.stack,I.yH⟩,
  rfl,I.bare,Un.kept hk,⟨_,hn,fun j x v e1 e2 e3=>?_⟩,fun x c e=>isc e,I.ar.fresh (aN _),fun x c e=>?_,fun p hp=>absurd (show p∈([]:List (Addr×Obj)) from hp) (by simp),I.ar.kept hk,?_⟩
 ·rcases cc e1 with⟨m1,_⟩|⟨_,o1⟩ <;> rcases cc e2 with⟨m2,_⟩|⟨_,o2⟩
  ·exact name_of_addr hp m1 m2
  ·exact absurd (uW (hc _ _ m1).2 (old o2)) (pF _)
  ·exact absurd (uW (hc _ _ m2).2 (old o1)) (pF _)
  ·exact I.ok.inj x y c o1 o2
 ·have hk0:∃k0,scope.names.lookup x=some k0/\(k0 = .cell\/k0 = .free):=by
   rcases hx with hx | hx
   ·obtain⟨k0,e,z⟩:=A3 (env:=X.env) hx
    refine⟨k0,e,?_⟩
    rcases z with z | z
    ·exact .inl z.symm
    ·exact .inr z.1
   ·obtain⟨k0,e,z⟩:=A3 (env:=X.env) hx
    refine⟨k0,e,?_⟩
    rcases z with z | z
    ·exact .inr z.symm
    ·exact .inr z.1
  obtain⟨k0,e,z⟩:=hk0
  show ∃c,(cellsFrom (s2.heap.objs.size+1) scope.names (gI X.env.cells scope.names [])).lookup x=some c
  rw[rN,Tv]
  rcases z with rfl | rfl
  ·obtain⟨c,nc⟩:=BL (n:=s2.heap.objs.size+1) e
   exact⟨c,by rw[nc];rfl⟩
  ·cases q:(cellsFrom (s2.heap.objs.size+1) scope.names []).lookup x with
   | some d=>exact⟨d,rfl⟩
   | none =>
    obtain⟨c,nc⟩:=yt (cells:=X.env.cells) scope.names [] x (nM e)
    exact⟨c,by rw[nc];rfl⟩
 ·have eI:scope.names.lookup x=some .cell:=by simpa [cG] using hx
  rcases cc e with⟨m,_⟩|⟨m,_⟩
  ·exact xZ (hc _ _ m).2
  ·rw[rO S.keys m]at eI;cases eI
 ·rcases cc e with⟨m,_⟩|⟨_,o1⟩
  ·have:=i8 b hb
   rw[<-z]at this
   exact absurd (uW (hc _ _ m).2 this) (pF _)
  ·exact(zH b hb).2.2.2.2.1 x c o1 z
 ·exact cK I.ok.jB I.sz
 ·rcases (zH b hb).2.2.2.1 with z | z
  ·exact I.ok.m4 b o e z
  ·exact absurd (fZ (aU (I.ok.bs b o e).1) z) (pF _)
 ·have:=I.vx b nu
  rcases bq.mp this with z | z
  ·exact(zH b hb).2.1 z
  ·exact(zH b hb).2.2.1 z
 ·
  have wU:(b5[j]?).bind (fun o=>some (o.bind fun i=>(σ[i]?).join))=some (some v):=by
   have wV:(b5.map fun o=>o.bind fun i=>(σ[i]?).join)[j]? = some (some v):=e2
   rw[f6]at wV
   cases q:b5[j]? with
   | none=>rw[q]at wV;cases wV
   | some o=>rw[q]at wV;exact wV
  cases q:b5[j]? with
  | none=>rw[q]at wU;cases wU
  | some o =>
   rw[q]at wU
   cases o with
   | none=>simp at wU
   | some i =>
    have uj:(σ[i]?).join=some v:=by simpa using wU
    have e4:σ[i]? = some (some v):=by
     cases q2:σ[i]? with
     | none=>rw[q2]at uj;cases uj
     | some z=>rw[q2]at uj;rw[show z=some v from uj]
    obtain⟨y,wW,wX,wY⟩:=S.fv j i q
    have exy:x=y:=by
     have PU:N'[j]? = some x:=e1
     rw[wX]at PU;exact(gF PU).symm
    subst exy
    obtain⟨m,hm,hl⟩:=I.loc
    have hf:=S.free _ (nM wY) rfl
    obtain⟨u,r,lk⟩:=hl i x v wW e4 (by rcases hf with z | z;exact .inr (.inl z);exact .inr (.inr z))
    refine⟨u,r,.inr ⟨A2 wY,?_⟩⟩
    rcases lk with⟨k,_⟩|⟨_,c,ec,ic⟩
    ·have k':X.env.scope.names.lookup x=some .local:=k
     rcases hf with z | z <;> (rw[z]at k';cases k')
    ·refine⟨c,?_,ic.keeps hk⟩
     show(cellsFrom (s2.heap.objs.size+1) scope.names (gI X.env.cells scope.names [])).lookup x=some c
     rw[rN,Tv]
     cases q3:(cellsFrom (s2.heap.objs.size+1) scope.names []).lookup x with
     | some d =>
      rcases yj _ _ _ _ _ (nM q3) with z | z
      ·simp at z
      ·rw[rO S.keys z]at wY;cases wY
     | none =>
      obtain⟨c',nc⟩:=yt (cells:=X.env.cells) scope.names [] x (nM wY)
      rcases yn _ _ _ _ nc with z | ⟨_,e5⟩
      ·simp at z
      ·rw[ec]at e5
       rw[nc,e5];rfl
 ·rcases cc e with⟨m,_⟩|⟨_,o1⟩
  ·exact I.ar.fresh (xZ (hc _ _ m).2)
  ·exact I.gT x c o1
 ·show(b5.map _).length=N'.length
  rw[aE,S.len]
end
end L2
namespace L2
open PySem PySem.Spec PyProof.Rows
def qr (X:Cx) (ifs:List Expr) (t:TT):Prop:=
 ∀ (pins:List (Addr×Obj)) (s:Shared) (σ:St) (H:Hp) (Q:Bool->Hp->Prop),Inv X pins σ H s->t σ H Q ->
  wpAny (model X.prog X.w) X.A (forIn ifs true fun c r=>if r=true then do let ok <- isTrue c X.env (eval c X.env);pure (ForInStep.yield ok) else pure (ForInStep.yield r)) (TP X pins σ Q) X.xe s
def vO:TT:=fun _ H Q=>Q true H
section
variable {X : Cx}
theorem iC:qr X [] vO:=fun _ _ _ H _ I h=>wpAny_tests_nil ⟨H,I,h⟩
theorem jl {c:Expr}{t:TT} (h:PT X c t):qr X [c] t:=fun pins s σ H Q I hw=>wpAny_tests_one (h pins s σ H Q I hw)
end
theorem Kg {prog:Program}{w:World}{A:Around}{R:Result->Shared->Prop}{s:Shared}{elt target iter:Expr}{ifs:List Expr}{scope:Scope}{pos:Pos}{it acc:Value}{env:Env} (I:Nat->Shared->Prop)
  (turn:∀n s,I n s->wpAny (model prog w) A (pyNext it) (fun r s1=>match r with
   | none=>R (.ok .next) s1
   | some v=>wpAny (model prog w) A (letOwnedTupleGo target it v) (fun _ s2=>wpAny (model prog w) A (assign target env v) (fun _ s3 =>
     wpAny (model prog w) A (forIn ifs true fun c r=>if r=true then do let ok <- isTrue c env (eval c env);pure (ForInStep.yield ok) else pure (ForInStep.yield r)) (fun ok s4 =>
      if ok=true then wpAny (model prog w) A (eval elt env) (fun x s5 =>
       wpAny (model prog w) A (call (.builtin "list.append") [acc,x]) (fun _ s6=>∃m,m < n/\I m s6) (fun _ _=>False) s5) (fun _ _=>False) s4
      else ∃m,m < n/\I m s4) (fun _ _=>False) s3) (fun _ _=>False) s2) (fun _ _=>False) s1) (fun _ _=>False) s)
  (n:Nat) (h:I n s) :
  codeAny (model prog w) A (.compLoop (.ListComp elt [⟨target,iter,ifs,0⟩] scope pos) 0 it acc env) R s:=by
 refine codeAny_loop rfl I (fun n s hI=>?_) n h
 show wpAny _ A ((compTurn (.ListComp elt [⟨target,iter,ifs,0⟩] scope pos) 0 it acc env).onRaise (fun x=>do noteFrame x env;theTreesLotGoes x)) _ _ s
 refine wpAny_noted (Tw ?_)
 rw[compTurn_list]
 refine af (nJ (af (au (turn n s hI) fun r s1 h1=>?_)))
 cases r with
 | none=>exact aB h1
 | some v =>
  refine af (au h1 fun _ s2 h2=>af (au h2 fun _ s3 h3=>af (au h3 fun ok s4 h4=>?_)))
  cases ok with
  | false=>exact aB ⟨rfl,h4⟩
  | true=>exact af (af (au h4 fun x s5 h5=>af (au h5 fun _ s6 h6=>aB (aB ⟨rfl,h6⟩))))
def ju (J:It) (g:TG) (ti:TT) (te:TE) (iq:St) (Q:VK) (p:Addr) (H1:Hp):Prop:=
 ∃W:Nat->Nat->List V->St->Hp->Prop,(∃m,W 0 m [] iq (upd H1 p (.lst []))) /\ ∀i m ys τ H2,W i m ys τ H2->H2 p=some (.lst ys) /\
  ((J.stop i H2/\Q (.ref p) H2)\/(J.go i H2 /\ ∀x H3,J.ng i H2 x H3->g x τ H3 fun c7 H4=>ti c7 H4 fun b H5 =>
   if b=true then te c7 H5 fun y H6=>H6 p=some (.lst ys)/\ys.length < sizeLine /\ ∃m',m' < m/\W (i+1) m' (ys ++ [y]) c7 (upd H6 p (.lst (ys ++ [y])))
   else ∃m',m' < m/\W (i+1) m' ys c7 H5))
def CC (wi:TI) (b5:List (Option Nat)) (g:TG) (ti:TT) (te:TE):TE:=fun σ H Q=>wi σ H fun J H1=>∀p,H1 p=none->ju J g ti te (pick b5 σ) Q p H1
section
variable {X : Cx} {pins : List (Addr × Obj)} {σ : St} {H2 : Hp} {s2 : Shared} {N' : List Str} {b5 : List (Option Nat)} {scope : Scope} {tg elt iter : Expr} {ifs : List Expr} {pos : Pos}
def CompEnd (X:Cx) (pins:List (Addr×Obj)) (σ:St) (Q:VK) (acc:Value) (C:Addr) (s':Shared):Prop:=
 ∃ (p:Addr) (H':Hp),acc = .ref p/\Inv X pins σ H' s'/\fh X pins H' C/\(∃m,s'.heap.Ns C m)/\Q (.ref p) H'
theorem Ld {J:It}{fp:List Addr}{it:Addr}{tn:Nat->Heap->Prop}{g:TG}{ti:TT}{te:TE}{Q:VK}{E:Value->Shared->Prop}{RR:Value->Addr->Result->Shared->Prop} (hc:X.calm=true) (S:cf X.N X.env.scope N' b5 scope)
  (I2:Inv X pins σ H2 s2) (T:Turn X.prog X.w X.K tg J fp it tn) (st:tn 0 s2.heap) (hf:∀b∈fp,fh X pins H2 b)
  (hb:∀s H fp,PG (cG X N' scope s H fp) tg g/\qr (cG X N' scope s H fp) ifs ti/\PE (cG X N' scope s H fp) elt te)
  (hw:∀p,H2 p=none->ju J g ti te (pick b5 σ) Q p H2) (hR:∀acc C s',CompEnd X pins σ Q acc C s'->RR acc C (.ok .next) s') :
  wpAny (model X.prog X.w) X.A (newList []) (fun acc s3=>wpAny (model X.prog X.w) X.A (newFunctionEnv scope X.env.globals (gI X.env.cells scope.names []) [] X.env.qual none .none (some X.env)) (fun vZ s4 =>
   codeAny (model X.prog X.w) X.A (.compStart (.ListComp elt [⟨tg,iter,ifs,0⟩] scope pos) 0 (.ref it) acc { vZ with scope:=relabel scope X.env }) (RR acc vZ.locals) s4) E s3) E s2:=by
 refine AB ?_
 have I3:Inv X pins σ (upd H2 s2.heap.objs.size (.lst [])) { s2 with heap:=s2.heap.push { cls:= .type "list", data:= .seq ([]:List Value).toArray } }:=
  I2.C8 (its:= []) (t':=s2.toks) .nil (a4 _)
 have hp:=hw s2.heap.objs.size I2.fresh
 generalize e3:({ s2 with heap:=s2.heap.push { cls:= .type "list", data:= .seq ([]:List Value).toArray } }:Shared)=s3 at I3 ⊢
 generalize eH:upd H2 s2.heap.objs.size (.lst [])=H3 at I3 hp
 have i8:∀b∈fp,b < s2.heap.objs.size:=fun b hb=>let ⟨_,e,_⟩:=T.obj _ _ st b hb;aU e
 have get3:∀b o,s2.heap.get? b=some o->s3.heap.get? b=some o:=fun b o e=>by rw[<-e3];exact bj _ e
 have oP:tn 0 s3.heap:=T.keep _ _ _ st fun b _ o e=>get3 b o e
 have eJ:∀b∈fp,fh X pins H3 b:=fun b hb=>⟨by rw[<-eH,ah (bh (i8 b hb))];exact(hf b hb).1,(hf b hb).2⟩
 have FY:∀b∈fp,∃o,s3.heap.get? b=some o:=fun b hb=>let ⟨o,e,_⟩:=T.obj _ _ oP b hb;⟨o,e⟩
 refine Kv fun h4 hn hk gM FZ=>?_
 have I4:Inv (cG X N' scope s3 H3 fp) [] (pick b5 σ) H3 { s3 with heap:=h4 }:=LM I3 S eJ FY hn hk gM FZ
 have wZ:tn 0 ({ s3 with heap:=h4 }:Shared).heap:=T.keep _ _ _ oP fun b _ o e=>hk b o e
 obtain⟨hG,hI,hE⟩:=hb s3 H3 fp
 obtain⟨W,⟨m0,w0⟩,turn⟩:=hp
 rw[eH]at w0
 have ku:∀ {H':Hp},(∀b∈fp,H' b=none) -> ∀b∈fp,fh (cG X N' scope s3 H3 fp) [] H' b:=fun hn b hb =>
  ⟨hn b hb,(I4.ok.lO b hb).1,I4.ok.lI b hb,.inl hb,fun x c e=>(I4.ok.lO b hb).2 x c e,fun p hp=>absurd (show p∈([]:List (Addr×Obj)) from hp) (by simp)⟩
 have loop:codeAny (model X.prog X.w) X.A (.compLoop (.ListComp elt [⟨tg,iter,ifs,0⟩] scope pos) 0 (.ref it) (.ref s2.heap.objs.size) (BM scope s3.heap.objs.size X.env))
   (RR (.ref s2.heap.objs.size) s3.heap.objs.size) { s3 with heap:=h4 }:=by
  refine Kg (fun n s'=>∃i ys τ H',Inv (cG X N' scope s3 H3 fp) [] τ H' s'/\tn i s'.heap/\(∀b∈fp,H' b=none)/\W i n ys τ H') ?_ m0 ⟨0,[],_,H3,I4,wZ,fun b hb=>(eJ b hb).1,w0⟩
  rintro n s5 ⟨i,ys,τ,H5,I5,nj,qI,w5⟩
  obtain⟨w4,w5⟩:=turn i n ys τ H5 w5
  rcases w5 with⟨stop,qn⟩|⟨go,step⟩
  ·refine au (T.done (cG X N' scope s3 H3 fp) rfl rfl rfl hc i [] s5 τ H5 _ I5 (ku qI) nj stop) fun r s6 ⟨hr,I6⟩=>?_
   subst hr
   refine hR _ _ _ ⟨_,H5,rfl,?_,?_,?_,qn⟩
   ·exact I3.vL (s':=s6) (ch:=fp) I6.os I6.base I6.ar I6.bare fun b hb=>⟨(eJ b hb).2.2.2.1,(eJ b hb).2.1,(eJ b hb).2.2.2.2.1,(eJ b hb).2.2.2.2.2⟩
   ·exact I3.kr (aN _) I6.free
   ·obtain⟨m,hm,_⟩:=I6.loc
    exact⟨m,hm⟩
  ·refine au (T.item (cG X N' scope s3 H3 fp) rfl rfl rfl hc i [] s5 τ H5 _ I5 (ku qI) nj go) fun r s6 ⟨u,hr,h6⟩=>?_
   subst hr
   refine au h6 fun _ s7 ⟨x,H7,I7,r7,y7,qO,F0⟩=>?_
   have F6:=I7.pinned (ku F0) (T.obj _ _ qO)
   refine au (hG _ s7 τ H7 x u _ F6 r7 (step x H7 y7)) fun _ s8 ⟨qP,H8,I8,q8⟩=>?_
   refine au (hI _ s8 qP H8 _ I8 q8) fun b s9 ⟨H9,I9,q9⟩=>?_
   have again:∀ {gA:St}{H':Hp}{s':Shared}{eg:List V}{m':Nat},Inv (cG X N' scope s3 H3 fp) ([]++sJ fp s7.heap) gA H' s'->m' < n->W (i+1) m' eg gA H' ->
     ∃m,m < n /\ ∃i ys τ H',Inv (cG X N' scope s3 H3 fp) [] τ H' s'/\tn i s'.heap/\(∀b∈fp,H' b=none)/\W i m ys τ H':=fun {gA H' s' eg m'} I' hm w'=>by
    refine⟨m',hm,i+1,eg,gA,H',I'.vi,T.keep _ _ _ qO fun b hb o e=>(I'.pin (b,o) (eU _ (eU _ (rR hb e)))).1,fun b hb=>?_,w'⟩
    obtain⟨o,e,d⟩:=T.obj _ _ qO b hb
    exact(I'.pin (b,o) (eU _ (eU _ (rR hb e)))).2.1
   cases b with
   | false =>
    obtain⟨m',hm,w'⟩:=q9
    exact again I9 hm w'
   | true =>
    refine au (hE _ s9 qP H9 _ I9 q9) fun y F7 ⟨z,w6,F8,F9,Dd,De,m',hm,w'⟩=>?_
    refine au (kc _ F7 qP w6 (.ref s2.heap.objs.size) [z] (.ref s2.heap.objs.size) [y] (fun _ H'=>H'=upd w6 s2.heap.objs.size (.lst (ys ++ [z]))) F8 rfl (.cons F9 .nil) ⟨_,_,_,rfl,rfl,Dd,De,rfl⟩) fun _ s11 ⟨_,Ga,Gb,_,qQ⟩=>?_
    subst qQ
    exact again Gb hm w'
 exact codeAny_compStart_list loop (T.self X.A 0 _ _ _ wZ loop)
theorem ff {wi:TI}{g:TG}{ti:TT}{te:TE} (hc:X.calm=true) (S:cf X.N X.env.scope N' b5 scope) (hi:PI X tg iter wi)
  (hb:∀s H fp,PG (cG X N' scope s H fp) tg g/\qr (cG X N' scope s H fp) ifs ti/\PE (cG X N' scope s H fp) elt te)
  (hs:∀x,foldedSetIterable iter X.env x=pure x:=by intro _;rfl):PE X (.ListComp elt [⟨tg,iter,ifs,0⟩] scope pos) (CC wi b5 g ti te):=by
 intro pins s σ H Q I h
 rw[eval_ListComp]
 refine Tx (use:=none) rfl hs (A4 fun n hn=>yu I S hn) S.kind (fun x hx hl=>rO S.keys (by rw[<-hl];exact hx)) ?_
 refine au (hi pins s σ H _ I h) fun v s1 h1=>au h1 fun qG s2 h2=>?_
 obtain⟨it,fp,tn,J,H2,e,I2,T,gX,f2,hw⟩:=h2
 subst e
 refine Ld (RR:=fun acc C=>compPost (model X.prog X.w) X.A X.xe none (EP X pins σ Q) acc C) hc S I2 T gX f2 hb hw ?_
 rintro acc C s' ⟨p,H',rfl,I',fC,⟨m,hm⟩,q⟩
 refine⟨m,hm,fun h' i'=>⟨.ref p,H',?_,rfl,q⟩⟩
 exact I'.turned (it:=C) (t':=s'.toks) (fun b o hb e=>(i'.2 b hb).trans e) fC.1 fC.2.1 fC.2.2.2.1 fC.2.2.2.2.1 fC.2.2.2.2.2
theorem rS {wi:TI}{g:TG}{ti:TT}{te:TE}{i:Nat}{x:Str}{pos' N2:Pos} (hc:X.calm=true) (S:cf X.N X.env.scope N' b5 scope) (hN:X.N.Nodup) (hx:X.N[i]? = some x) (hl:X.env.scope.names.lookup x=some .local) (hi:PI X tg iter wi)
  (hb:∀s H fp,PG (cG X N' scope s H fp) tg g/\qr (cG X N' scope s H fp) ifs ti/\PE (cG X N' scope s H fp) elt te)
  (hsw:swapsWith (.ListComp elt [⟨tg,iter,ifs,0⟩] scope pos) (some (.Name x pos')) N2.line X.env=pure true:=by rfl)
  (hs:∀x,foldedSetIterable iter X.env x=pure x:=by intro _;rfl):PS X (.Assign [.Name x pos'] (.ListComp elt [⟨tg,iter,ifs,0⟩] scope pos) N2) (C0 (CC wi b5 g ti te) (mJ i)):=by
 intro pins s σ H D I h
 rw[exec_Assign_Name_used _ _ _ _ hsw]
 refine af (nJ (af ?_))
 show wpAny _ X.A (do let _ <- comprehension (.ListComp elt [⟨tg,iter,ifs,0⟩] scope pos) scope X.env _ (newList []) false (eval iter X.env) (some (assign (.Name x pos') X.env))) _ _ s
 refine af (au (Tx (use:=some (assign (.Name x pos') X.env)) (Q:=fun _ s'=>SP X pins D .next s') rfl hs (A4 fun n hn=>yu I S hn) S.kind (fun x hx hl=>rO S.keys (by rw[<-hl];exact hx)) ?_) fun _ s' hq=>aB (aB hq))
 refine au (hi pins s σ H _ I h) fun v s1 h1=>au h1 fun qG s2 h2=>?_
 obtain⟨it,fp,tn,J,H2,e,I2,T,gX,f2,hw⟩:=h2
 subst e
 refine Ld (Q:=fun v H'=>D.nx (σ.set i (some v)) H') (RR:=fun acc C=>compPost (model X.prog X.w) X.A X.xe (some (assign (.Name x pos') X.env)) (fun _ s'=>SP X pins D .next s') acc C) hc S I2 T gX f2 hb hw ?_
 rintro acc C s' ⟨p,H',rfl,I',fC,⟨m,hm⟩,q⟩
 show wpAny (model X.prog X.w) X.A (assign (.Name x pos') X.env (.ref p)) _ _ s'
 refine wpAny_assign_Name (K5 (v:= .ref p) I' hN hx (.inl hl) rfl (fun kZ I'' ⟨a,hsb,ha⟩=>?_) (.inr hl))
 have hCa:C≠a:=by
  rcases ha with ha | ha
  ·rw[ha];exact fC.2.1
  ·exact fun z=>fC.2.2.2.2.1 _ _ ha z.symm
 refine⟨m,hm.sameBut hsb hCa,fun h' i'=>⟨_,H',?_,q⟩⟩
 exact I''.turned (it:=C) (t':=kZ.toks) (fun b o hb e=>(i'.2 b hb).trans e) fC.1 fC.2.1 fC.2.2.2.1 fC.2.2.2.2.1 fC.2.2.2.2.2
end
end L2
namespace L2
open PySem PySem.Spec PyProof.Rows PySem.W PySem.Builtin.ObjectAttr
def jT (h:Heap) (C:Addr) (us:List Value):Heap:=(h.push { cls:= .type "tuple", data:= .seq us.toArray }).push { cls:= .ref C,data:= .fields #[.ref h.objs.size,.none,.none,.none,.bool false,.none] }
theorem rQ {h:Heap}{C:Addr}{us:List Value}{b:Addr}{o:Obj} (e:h.get? b=some o):(jT h C us).get? b=some o:=bj _ (bj _ e)
theorem Bv {h:Heap}{C:Addr}{us:List Value}:(jT h C us).get? (h.objs.size+1)=some { cls:= .ref C,data:= .fields #[.ref h.objs.size,.none,.none,.none,.bool false,.none] }:=by
 unfold jT;heap_get
section
variable {P : Program} {w : World} {A : Around} {E : Value -> Shared -> Prop} {h : Heap} {gs : Array GenState} {dr : Drawn} {tk : Nat} {os : OsState}
variable {cn qn : Str} {C N : Addr} {bases up zI : List Value} {tF : Bool} {sl : List Str} {subs : List Value} {N3 : Bool} {N4 : Option Bool} {od : Option Addr} {e0 e1 e2 e3 e5 : Option Value} {B zJ PV : String}
variable {mN : Str -> Option Value} {us : List Value} {fI : Addr} {oI : Obj}
theorem Ul {Q:Fin->Shared->Prop} (F:ExcBaseFacts B zJ PV zI) (T:OwnTail h zI up) (atC:h.get? C=some (excClassObj cn qn C N bases up tF sl subs N3 N4 od e0 e1 e2 e3 e5 zJ)) (Gd:h.Ns N mN)
  (hi:mN "__init__" = some (.ref fI)) (ee:h.get? fI=some oI) (Ge:oI.cls = .type "function") (bb:us.length<=sizeLine)
  (run:wpAny (model P w) A (call (.ref fI) (.ref (h.objs.size+1)::us)) (fun r s'=>r = .none/\Q (.done (.ret (.ref (h.objs.size+1)))) s') E ⟨jT h C us,gs,dr,tk,os⟩) :
  wpAny (model P w) A (Builtin.«type.__call__» ⟨.ref C::us,[]⟩) Q E ⟨h,gs,dr,tk,os⟩:=by
 repeat (first | with_reducible refine AH atC ?_ | with_reducible refine wpAny_madeBy_exc atC ?_ | wp_step)
 refine codeAny_call_builtin_code (JM _ F.quiet) (wpAny_check_new_subT F T atC (codeAny_exc_new_subT F T atC ?_ bb))
 show wpAny _ _ _ _ _ (⟨jT h C us,gs,dr,tk,os⟩:Shared)
 have N5:(jT h C us).get? C=_:=rQ atC
 have atE:(jT h C us).get? (h.objs.size+1)=_:=Bv
 have has:(Value.ref C::up).contains (.ref C)=true:=List.contains_iff_mem.mpr ba
 unfold isInstance
 repeat (first | with_reducible refine AH atE ?_ | (with_reducible refine wpAny_isSubtype_exc N5 ?_;rw[has])|wp_step)
 refine wpAny_typeLookup_tail (mN:=mN) N5 (Gd.keeps fun _ _ e=>rQ e) (T.keeps fun _ _ e=>rQ e) F.mroIs F.init.lookup ?_
 rw[hi]
 refine dX (af (show wpAny _ _ (bindSpecial _ _) _ _ _ from ?_))
 unfold bindSpecial
 refine af (x8 (T:= "function") ⟨oI,rQ ee,Ge⟩ ?_)
 rw[aA (show _ from by decide)]
 refine aB (af (au run fun r s' hr=>?_))
 obtain⟨rfl,q⟩:=hr
 wp_walk
 exact q
theorem Kj {Q:Value->Shared->Prop} (F:ExcBaseFacts B zJ PV zI) (T:OwnTail h zI up) (atC:h.get? C=some (excClassObj cn qn C N bases up tF sl subs N3 N4 od e0 e1 e2 e3 e5 zJ)) (Gd:h.Ns N mN)
  (hi:mN "__init__" = some (.ref fI)) (ee:h.get? fI=some oI) (Ge:oI.cls = .type "function") (bb:us.length<=sizeLine)
  (run:wpAny (model P w) (A.under (.builtin "type.__call__" ⟨.ref C::us,[]⟩)) (call (.ref fI) (.ref (h.objs.size+1)::us)) (fun r s'=>r = .none/\Q (.ref (h.objs.size+1)) s') E ⟨jT h C us,gs,dr,tk,os⟩) :
  wpAny (model P w) A (call (.ref C) us) Q E ⟨h,gs,dr,tk,os⟩:=by
 have l1:=tc_lookup
 have l2:=tc_bind (.ref C)
 have ty:(⟨h,gs,dr,tk,os⟩:Shared).TypeIs (.ref C) "type" :=⟨_,atC,rfl⟩
 refine nL (Tz (show wpAny _ _ (callAny (.ref C) _) _ _ _ from ?_))
 repeat (any_goals (first | assumption | with_reducible refine AH atC ?_ | wp_step))
 exact⟨rfl,codeAny_call_builtin_at (JM _ (by decide +kernel)) entry_typeCall (wpAny_check_type_call_sub atC (Ul F T atC Gd hi ee Ge bb run))⟩
end
abbrev zK:List Value:= [.type "ValueError", .type "Exception", .type "BaseException", .type "object"]
def dI (K:Frag) (C:Addr) (i:Option Value):Bool:=
  match K.lookup C with
  | some ⟨.type "type", _,.cls cls,slots⟩ =>
    (match cls.mro,slots.toList with
     | .ref C'::up,[_,_,_,_,some (.builtin n),_]=>C'==C && (n == "ValueError.__new__" && (!cls.hasDel && (tailIn K zK up && (nsOkIn K cls.ns && nsIn K cls.ns "__init__" == some i))))
     | _,_=>false)
  | _=>false
theorem U2 {K:Frag}{h:Heap}{N:Addr}{mp:Str->Option Value}{n:Str}{v:Value} (X:K.In h) (G:h.Ns N mp) (e:nsIn K N n=some (some v)):mp n=some v:=by
 obtain⟨ob,ens,_,at_,da,_,look⟩:=G
 unfold nsIn at e
 split at e
 next _ _ _ _ _ q =>
  have two:=X _ _ q
  rw[at_]at two
  cases two;cases da
  split at e
  next en he =>
   cases e
   rw[<-look,nsFind,findBy,<-Array.find?_toList,he];rfl
  next=>split at e <;> cases e
 next=>cases e
structure ExcAt (h:Heap) (C:Addr) (i:Option Value):Prop where
 ex:∃bm N nm q bs y6 sn sub ab col dd k0 k1 k2 k3 k5 mN,h.get? C=some (excClassObj nm q C N bs bm y6 sn sub ab col dd k0 k1 k2 k3 k5 "ValueError.__new__")/\h.Ns N mN/\mN "__init__" = i/\OwnTail h zK bm
theorem pU {K:Frag}{h:Heap}{C:Addr}{i:Option Value} (X:K.In h) (q:dI K C i=true):ExcAt h C i:=by
 unfold dI at q
 split at q
 next od cls slots at_ =>
  split at q
  next C' up a0 a1 a2 a3 n a5 em es =>
   obtain⟨p1,q⟩:=iz.mp q
   obtain⟨p2,q⟩:=iz.mp q
   obtain⟨p3,q⟩:=iz.mp q
   obtain⟨p4,q⟩:=iz.mp q
   obtain⟨p5,p6⟩:=iz.mp q
   have e1:=cS.mp p1
   have e2:=cS.mp p2
   have e3:cls.hasDel=false:=by simpa using p3
   have e6:=cS.mp p6
   subst e1 e2
   obtain⟨nm,bs,mro,ns,qn,hd,sn,sb,ab,col,del⟩:=cls
   have em':mro=_:=em
   have uj:del=false:=e3
   subst em' uj
   obtain rfl:slots = #[a0,a1,a2,a3,some (.builtin "ValueError.__new__"),a5]:=by cases slots;exact eT Array.mk es
   refine⟨⟨up,ns,nm,qn,bs,hd,sn,sb,ab,col,od,a0,a1,a2,a3,a5,h.nsMap ns,X _ _ at_,.of_isNs (isNs_of_in X p5),?_,tail_of_in X p4⟩⟩
   cases i with
   | none=>exact nsMap_none_of_in X p5 e6
   | some v=>exact U2 X (.of_isNs (isNs_of_in X p5)) e6
  next=>cases q
 next=>cases q
def sQ:List Value->Bool
 | .ref _::r=>sQ r
 | l=>l==zK
theorem UH:∀ {l:List Value},sQ l=true->l=zK \/ ∃a r,l = .ref a::r/\sQ r=true
 | [],e=>.inl (cS.mp e)
 | .ref a::r,e=>.inr ⟨a,r,rfl,e⟩
 | .none::r,e=>.inl (cS.mp e)
 | .bool b::r,e=>.inl (cS.mp e)
 | .int i t::r,e=>.inl (cS.mp e)
 | .float i t::r,e=>.inl (cS.mp e)
 | .str i t::r,e=>.inl (cS.mp e)
 | .bytes i t::r,e=>.inl (cS.mp e)
 | .type i::r,e=>.inl (cS.mp e)
 | .builtin i::r,e=>.inl (cS.mp e)
theorem Wd (self:Value) (l:List Value):sQ l=true->refuseLoop self "__setattr__" l=pure ():=by
 induction l with
 | nil=>intro e;exact absurd e (by decide)
 | cons v r ih =>
  intro e
  rcases UH e with q | ⟨a,r',q,e'⟩
  ·rw[q];kernel_rfl
  ·cases q
   rw[refuseLoop_ref]
   exact ih e'
structure dh (K:Frag) (C:Addr):Prop where
 ga:findIn K (.ref C) "__getattribute__" = some (some (.builtin "BaseException.__getattribute__"))
 gh:findIn K (.ref C) "__getattr__" = some none
 sa:findIn K (.ref C) "__setattr__" = some (some (.builtin "object.__setattr__"))
 hd:hasDictIn K C=true
 ov:((clsIn K C).any fun cd=>sQ cd.mro)=true
 be:mroIn K C (.type "BaseException")=some true
 ve:mroIn K C (.type "ValueError")=some true
 ob:mroIn K C (.type "object")=some true
 ka:findIn K (.ref C) "__class__" = some (some (.builtin "object.__class__"))
 kn:specialIn K (.builtin "object.__class__") "__get__" = some (some (.builtin "getset_descriptor.__get__"))
 kt:takesIn K (.builtin "object.__class__")=some true
section
variable {prog : Program} {w : World} {A : Around} {E : Value -> Shared -> Prop} {s : Shared} {K : Frag} {x C : Addr} {ox : Obj} {od : Option Obj} {name : Str}
theorem Le {R:Result->Shared->Prop}{tk:Tok}{v:Value} (X:K.In s.heap) (I:InstAt s.heap x ox C od) (c:dh K C) (no:findIn K (.ref C) name=some none)
  (go:wpAny (model prog w) A.in1 (storeInOwnDict (.ref x) (.ref C) (.str name tk) name v false) (fun fin s'=>match fin with | .done f=>R (.ok f) s' | .again c'=>c'.quiet=true/\codeAny (model prog w) A c' R s') (fun e s'=>R (.error e) s') s) :
  codeAny (model prog w) A (.call (.builtin "object.__setattr__") ⟨[.ref x,.str name tk,v],[]⟩) R s:=by
 obtain⟨cls,ic,ok⟩:=x9 c.ov
 have ty:Looks (model prog w) s.heap (typeOf (.ref x)) (.ref C):=I.type
 have up:Looks (model prog w) s.heap (mroOf (.ref C)) cls.mro:=Looks.andThen (looks_clsIn X ic) Looks.now
 have Y7:Looks (model prog w) s.heap (typeLookup (.ref C) name) none:=looks_findIn X no
 refine JN AI.slot.plain AI.entry (@check_slot (model prog w) _ _ s _ _ _ (.ref x) [.str name tk,v] [] _ AI.kind AI.split (ty.andThen (AJ X c.ob)) (AI.args _ _ _) ?_)
 rw[osa_eq,refuse_eq]
 refine af (af (ty.here (af (up.here ?_))))
 rw[Wd _ _ ok]
 refine aB (show wpAny _ _ _ _ _ s from ?_)
 exact af (ty.here (af (Y7.here (af (aB go)))))
theorem Lf {tk:Tok}{fill expr:Bool}{Q:Value->Shared->Prop} (X:K.In s.heap) (I:InstAt s.heap x ox C od) (c:dh K C)
  (h:wpAny (model prog w) A.in1 (Builtin.«object.__getattribute__» ⟨[.ref x,.str name tk],[]⟩) (fun fin s'=>match fin with | .done (.ret v)=>wpAny (model prog w) A (handedOut v) Q E s' | _=>False) (fun _ _=>False) s) :
  wpAny (model prog w) A (getAttrBy (.ref x) (.str name tk) fill expr) Q E s:=by
 have L0:=I.type (M:=model prog w)
 have L1:=looks_findIn (M:=model prog w) X c.ga
 have L2:=looks_findIn (M:=model prog w) X c.gh
 have sub:Looks (model prog w) s.heap (isInstance (.ref x) (.type "BaseException")) true:=I.type.andThen (AJ X c.be)
 have hx2:(Value.builtin "BaseException.__getattribute__" == Value.builtin "object.__getattribute__")=false:=by decide +kernel
 have hx1:(onTheHeap (Value.ref C) && Value.builtin "BaseException.__getattribute__" == Value.builtin "object.__getattribute__")=false:=by rw[hx2];rfl
 have hk:builtinKind "BaseException.__getattribute__" = some .slot:=by decide +kernel
 have Yo:splitId "BaseException.__getattribute__" = some ("BaseException", "__getattribute__"):=by decide +kernel
 unfold getAttrBy
 refine dX (af (L0.here (af (L1.here ?_))))
 dsimp only
 rw[hx1]
 show wpAny _ _ (getAttrByItsOwn _ _ _ _ _ _) _ _ _
 unfold getAttrByItsOwn hookBefore
 refine af ?_
 rw[aA (show onTheHeap (Value.ref C)=true from rfl)]
 refine L2.here (af (JO (dX ?_)))
 unfold callGetattribute
 rw[aq (show ¬ (expr && onTheHeap (Value.builtin "BaseException.__getattribute__"))=true by cases expr <;> decide)]
 unfold boundAndCalled
 rw[akU.ga.bind]
 refine af (aB (nL (JN akU.ga.plain PySem.F.entry_bexc_ga (@check_slot (model prog w) _ _ s "BaseException.__getattribute__" "BaseException" "__getattribute__" (.ref x) [.str name tk] [] _ hk Yo sub (PySem.F.args_bexc_ga _ _) ?_))))
 refine md h (fun fin s' z=>?_) fun _ _ z=>z.elim
 rcases fin with(_ | _ | _ | _)|_ <;> first | exact z | exact z.elim
theorem Vx {tk:Tok}{v:Value}{Q:Fin->Shared->Prop} (X:K.In s.heap) (I:InstAt s.heap x ox C od) (hf:findObj K C od name=some (.value v)) (h:Q (.done (.ret v)) s) :
  wpAny (model prog w) A (Builtin.«object.__getattribute__» ⟨[.ref x,.str name tk],[]⟩) Q E s:=by
 have L0:=I.type (M:=model prog w)
 have L1:=looks_find (M:=model prog w) X I hf
 refine af (aB (af (aB (af (L0.here (af (L1.here ?_)))))))
 exact aB h
theorem Xh {expr:Bool}{v:Value}{Q:Value->Shared->Prop} (X:K.In s.heap) (I:InstAt s.heap x ox C od) (c:dh K C) (hf:findObj K C od name=some (.value v)) (hh:handedIn v=true)
  (h:Q v { s with toks:=s.toks+1 }):wpAny (model prog w) A (getAttr (.ref x) name expr) Q E s:=by
 unfold getAttr
 refine af (wpAny_mkText ?_)
 exact Lf (s:={ s with toks:=s.toks+1 }) X I c (Vx (s:={ s with toks:=s.toks+1 }) X I hf (handed_on hh h))
theorem Vy {Q:Option Value->Shared->Prop} (X:K.In s.heap) (I:InstAt s.heap x ox C od) (c:dh K C) (h:Q (some (.ref C)) { s with toks:=s.toks+1 }):wpAny (model prog w) A (getAttr? (.ref x) "__class__") Q E s:=by
 have hf:findObj K C od "__class__" = some (.bind (.builtin "getset_descriptor.__get__") (.builtin "object.__class__")):=by
  obtain⟨cd,hc,_⟩:=x9 c.hd
  unfold findObj
  rw[hc,JP,c.ka,JP]
  dsimp only
  rw[c.kn,JP]
  dsimp only
  rw[c.kt,JP]
 unfold getAttr? getAttrBy?
 refine af (wpAny_mkText (af (JO ?_)))
 have L0:=I.type (M:=model prog w)
 have L1:=looks_find (M:=model prog w) X I hf
 refine Lf (s:={ s with toks:=s.toks+1 }) X I c ?_
 refine af (aB (af (aB (af (JQ (s:={ s with toks:=s.toks+1 }) L0 (af (JQ (s:={ s with toks:=s.toks+1 }) L1 ?_)))))))
 show wpAny _ _ (holding [.builtin "object.__class__"] (call (.builtin "getset_descriptor.__get__") [.builtin "object.__class__", .ref x,.ref C]) >>= ret) _ _ _
 refine af (dX (nL (class_get (s:={ s with toks:=s.toks+1 }) (ox:=ox) (od:=od) X I c.ob ?_)))
 exact aB (handed_on rfl (aB h))
theorem U3 {M:Model}{h:Heap} (X:K.In h) (c:dh K C):Looks M h (isType (.ref C)) true:=by
 obtain⟨cls,ic,_⟩:=x9 c.hd
 unfold clsIn at ic
 split at ic
 next at_ =>
  intro A' Q' E' s' k q
  exact af (ya (part:=some headPart) (k _ _ (X _ _ at_)) (aB q))
 next=>cases ic
theorem yC (c:dh K C):KitX K (.ref x) (.ref C) (fun h=>InstAt h x ox C od) where
 ty:=fun _ _ _ I=>I.type
 it:=fun _ _ X _=>U3 X c
 ne:=fun h tp _ _ _ _ X tup=>by
  obtain⟨cls,ic,_⟩:=x9 c.hd
  cases q:(Value.ref C == .ref tp) with
  | false=>rfl
  | true =>
   have e:C=tp:=Value.ref.inj (cS.mp q)
   unfold clsIn at ic
   split at ic
   next at_ =>
    have two:=(X _ _ at_).symm
    rw[e,tup]at two
    cases two
   next=>cases ic
 ca:=fun X I k=>Vy X I c k
end
end L2
namespace L2
open PySem PySem.Spec PyProof.Rows PySem.W PySem.Builtin.ObjectAttr
theorem bt.there {P:Program}{w:World}{H:Hp}{h:Heap}{a:Addr}{o:HO} (x:bt P w H h a o):∃ob,h.get? a=some ob:=by
 cases o with
 | lst xs=>obtain⟨_,_,_,_,e⟩:=x;exact⟨_,e⟩
 | tup xs=>obtain⟨_,_,_,ob,e,_⟩:=x;exact⟨_,e⟩
 | dK kvs=>obtain⟨_,_,_,_,o,_,_,e,_⟩:=x;exact⟨_,e⟩
 | dT kvs=>obtain⟨_,_,_,_,o,_,_,e,_⟩:=x;exact⟨_,e⟩
 | set S n=>obtain⟨o,_,_,_,e,_⟩:=x;exact⟨_,e⟩
 | ins C dx fs=>obtain⟨_,_,_,e,_⟩:=x;exact⟨_,e⟩
 | own y=>exact x
 | xd fs=>obtain⟨_,⟨_,_,_,e,_⟩,_⟩:=x;exact⟨_,e⟩
 | wH lo hi=>obtain⟨_,_,_,e⟩:=x;exact⟨_,e⟩
 | ip ob u=>obtain⟨e,_⟩:=x;exact⟨_,e⟩
 | m8 ps=>exact⟨_,x⟩
 | met f y=>exact⟨_,x⟩
 | ext φ=>exact x.2.1
section
variable {X : Cx} {pins : List (Addr × Obj)} {σ : St} {H : Hp} {s : Shared} {h' : Heap} {a : Addr} {o : HO}
theorem Inv.yO (I:Inv X pins σ H s) (e:s.heap.get? a=none):H a=none:=by
 cases q:H a with
 | none=>rfl
 | some u =>
  obtain⟨ob,z⟩:=(I.ar a u q).there
  rw[e]at z;cases z
theorem Inv.put (I:Inv X pins σ H s) (k:∀b u,s.heap.get? b=some u->h'.get? b=some u) (e:s.heap.get? a=none) (new:bt X.prog X.w (upd H a o) h' a o):Inv X pins σ (upd H a o) { s with heap:=h' }:=by
 have hn:=I.yO e
 have ne:∀b u,s.heap.get? b=some u->b≠a:=fun b u q z=>by rw[z,e]at q;cases q
 refine I.un (t':=s.toks) ⟨fun b u q n _ _=>k b u q,fun b u q n _ _=>⟨u.slots,k b u q⟩,fun b u q n _=>by rw[ah (ne b u q)];exact n,fun b u q _=>⟨u,k b u q⟩,fun b xs q=>by rw[ah (ao q hn)];exact q,
  fun b u v q=>by rw[ah (ao q hn)];exact q,fun b ps q=>⟨#[],by rw[ah (ao q hn),q];simp⟩⟩ fun b u q=>?_
 by_cases hb:b=a
 ·subst hb;rw[ag]at q;cases q;exact new
 ·rw[ah hb]at q
  exact(I.ar b u q).f' (fun c v _ z=>k c v z) (fun c z=>by rw[ah (ao z hn)];exact z) fun c xs z=>by rw[ah (ao z hn)];exact z
end
def bJ (C:Addr) (dx:Option Addr) (a:Addr):HO:= .ext fun h=>∃t,h.get? a=some { cls:= .ref C,dict:=dx,data:= .fields #[.ref t,.none,.none,.none,.bool false,.none] }
def dv (d:Addr) (fs:List (Str×V)):HO:= .ext fun h=>fs.length<=100 /\ ∃mA,h.Ns1 d mA/\(∀f,gV (fs.lookup f) (mA f))/\PySem.Within mA (fs.map (·.1))
section
variable {P : Program} {w : World} {H : Hp} {h : Heap} {a d C : Addr} {dx : Option Addr} {fs : List (Str × V)}
theorem vq {t:Addr} (e:h.get? a=some { cls:= .ref C,dict:=dx,data:= .fields #[.ref t,.none,.none,.none,.bool false,.none] }):bt P w H h a (bJ C dx a):=
 ⟨⟨t,e⟩,⟨_,e⟩,fun _ _ ⟨t,q⟩ k=>⟨t,k _ q⟩⟩
theorem Mp {mA:Str->Option Value} (z:fs.length<=100) (n:h.Ns1 d mA) (r:∀f,gV (fs.lookup f) (mA f)) (wi:PySem.Within mA (fs.map (·.1))):bt P w H h d (dv d fs):=
 ⟨⟨z,mA,n,r,wi⟩,(let ⟨o,_,_,e,_⟩:=n;⟨o,e⟩),fun _ _ ⟨z,mA,n,r⟩ k=>⟨z,mA,n.at k,r⟩⟩
end
section
variable {X : Cx} {pins : List (Addr × Obj)} {σ : St} {H : Hp} {s : Shared} {A : Around} {E : Value -> Shared -> Prop} {a d C : Addr} {dx : Option Addr} {fs : List (Str × V)} {f : Str}
theorem Inv.excAt (I:Inv X pins σ H s) (e:H a=some (bJ C dx a)):∃t,s.heap.get? a=some { cls:= .ref C,dict:=dx,data:= .fields #[.ref t,.none,.none,.none,.bool false,.none] }:=(I.ar a _ e).1
theorem Inv.vt (I:Inv X pins σ H s) (e:H d=some (dv d fs)):fs.length<=100 /\ ∃mA,s.heap.Ns1 d mA/\(∀f,gV (fs.lookup f) (mA f))/\PySem.Within mA (fs.map (·.1)):=(I.ar d _ e).1
theorem U4 {y:V}{u:Value}{Q:Unit->Shared->Prop} (I:Inv X pins σ H s) (e:H a=some (bJ C none a)) (c:dh X.K C) (no:findIn X.K (.ref C) f=some none) (ry:RelV y u)
  (h:∀d s',H d=none->d≠a->Inv X pins σ (upd (upd H d (dv d [(f,y)])) a (bJ C (some d) a)) s'->Q () s'):wpAny (model X.prog X.w) A (setAttr (.ref a) f u) Q E s:=by
 obtain⟨t,at_⟩:=I.excAt e
 have J:InstAt s.heap a _ C none:=⟨at_,rfl,rfl,True.intro⟩
 refine PySem.W.set_plain I.a7 J c.sa (Le (s:={ s with toks:=s.toks+1 }) I.a7 J c no ?_)
 obtain⟨cls,ic,tF⟩:=x9 c.hd
 refine af (aB (af (show wpAny _ _ (instanceDict a true) _ _ _ from ?_)))
 refine af (ya (s:={ s with toks:=s.toks+1 }) at_ (af (JQ (s:={ s with toks:=s.toks+1 }) (looks_clsIn I.a7 ic) ?_)))
 rw[tF]
 refine af (wpAny_alloc ?_)
 have fresh:s.heap.get? s.heap.objs.size=none:=uQ (aN _)
 have na:a≠s.heap.objs.size:=bh (aU at_)
 have gk:(s.heap.push { cls:= .type "dict", data:= .dict #[] }).get? a=_:=bj _ at_
 refine af (wpAny_update (s:={ s with heap:=s.heap.push { cls:= .type "dict", data:= .dict #[] },toks:=s.toks+1 }) gk (aB ?_))
 generalize eh:(s.heap.push { cls:= .type "dict", data:= .dict #[] }).update a (fun o=>{ o with dict:=some s.heap.objs.size })=h1
 have at2:h1.get? a=some { cls:= .ref C,dict:=some s.heap.objs.size,data:= .fields #[.ref t,.none,.none,.none,.bool false,.none] }:=by
  rw[<-eh];exact pJ _ gk rfl
 have PX:∀b o,b≠a->s.heap.get? b=some o->h1.get? b=some o:=fun b o hb q=>by
  rw[<-eh,jg _ _ (aO hb)];exact bj _ q
 have dAt:h1.get? s.heap.objs.size=some { cls:= .type "dict", data:= .dict #[] }:=by
  rw[<-eh,jg _ _ na];exact dj _ rfl
 have n0:h1.Ns1 s.heap.objs.size (fun _=>none):=Heap.Ns1.of_empty ⟨_,#[],_,dAt,rfl,(fun e he=>absurd he (by simp)),fun _=>rfl⟩
 refine af (aB (af (wpAny_nsSet1 (s:={ s with heap:=h1,toks:=s.toks+1 }) n0 fun h2 n2 sb=>?_)))
 have w0:PySem.Within (fun _=>none) ([]:List Str):=fun g hg=>absurd rfl hg
 obtain⟨oD,esD,epD,zL,Gf,Gg⟩:=n2.count (PySem.Within.cons f u w0)
 refine af (wpAny_lookBehind zL (by rw[Gf];exact pastItsLine_dict (cK Gg (by rw[dZ,yb,aI];decide))) (aB ?_))
 refine h s.heap.objs.size _ (I.yO fresh) (aO na) ?_
 have zM:=I.yO fresh
 have alC:∀b o,b≠a->s.heap.get? b=some o->h2.get? b=some o:=fun b o hb q=>(sb.2 b (fun z=>by rw[z,fresh]at q;cases q)).trans (PX b o hb q)
 have PY:h2.get? a=_:=(sb.2 a na).trans at2
 have heD:upd H s.heap.objs.size (dv s.heap.objs.size [(f,y)]) a=some (bJ C none a):=by rw[ah na];exact e
 have I1:Inv X pins σ (upd H a (bJ C (some s.heap.objs.size) a)) { s with heap:=h1,toks:=s.toks+1 }:=by
  refine I.write (x:=a) (e:=a) (by rw[e];exact True.intro) (.inl rfl) (fun b u hb q=>PX b u hb q) ⟨_,at2⟩ (vq at2)
 have uk:upd H a (bJ C (some s.heap.objs.size) a) s.heap.objs.size=none:=by rw[ah (aO na)];exact zM
 have cm:upd (upd H s.heap.objs.size (dv s.heap.objs.size [(f,y)])) a (bJ C (some s.heap.objs.size) a)=upd (upd H a (bJ C (some s.heap.objs.size) a)) s.heap.objs.size (dv s.heap.objs.size [(f,y)]):=by
  funext b
  unfold upd
  by_cases h1:b=a
  ·subst h1;rw[aA rfl,aq na,aA rfl]
  ·rw[aq h1]
   by_cases h2:b=s.heap.objs.size
   ·rw[aA h2,aA h2]
   ·rw[aq h2,aq h2,aq h1]
 rw[cm]
 have zN:upd H a (bJ C (some s.heap.objs.size) a) a=some (bJ C (some s.heap.objs.size) a):=ag
 have fp:fh X pins (upd H a (bJ C (some s.heap.objs.size) a)) s.heap.objs.size:=by
  have z:=I.kr (H':=upd H a (bJ C (some s.heap.objs.size) a)) (aN _) uk
  exact z
 have I2:Inv X pins σ (upd H a (bJ C (some s.heap.objs.size) a)) { s with heap:=h2,toks:=s.toks+2 }:=
  Inv.turned (s:={ s with heap:=h1,toks:=s.toks+1 }) (h':=h2) I1 (it:=s.heap.objs.size) (t':=s.toks+2) (fun b o hb q=>(sb.2 b hb).trans q) fp.1 fp.2.1 fp.2.2.2.1 fp.2.2.2.2.1 fp.2.2.2.2.2
 refine⟨I2.ok,I2.os,I2.bare,?_,I2.loc,I2.cell,?_,?_,?_,?_,I2.len⟩
 ·have B:=I2.base
  have nb:∀b o,X.cp.heap.get? b=some o->b ∉ X.ex->b≠s.heap.objs.size:=fun b o q hx z=>by
   obtain⟨o',q'⟩:=I.base.there b o q hx
   rw[z,fresh]at q';cases q'
  refine⟨B.keep,B.slot,fun b o q n hx=>by rw[ah (nb b o q hx)];exact B.free b o q n hx,B.there,fun b xs q=>?_,fun b o u q=>?_,fun b ps q=>?_⟩
  ·have z:=B.jv b xs q;rw[ah (ao z uk)];exact z
  ·have z:=B.iY b o u q;rw[ah (ao z uk)];exact z
  ·obtain⟨m,z⟩:=B.jw b ps q;exact⟨m,by rw[ah (ao z uk)];exact z⟩
 ·rw[ah (aO fp.2.1)];exact I2.free
 ·intro x c q;rw[ah (fp.2.2.2.2.1 x c q)];exact I2.gT x c q
 ·intro p hp
  obtain⟨p1,p2,p3,p4,p5⟩:=I2.pin p hp
  exact⟨p1,by rw[ah (fp.2.2.2.2.2 p hp)];exact p2,p3,p4,p5⟩
 ·intro b o q
  by_cases hb:b=s.heap.objs.size
  ·subst hb
   rw[ag]at q;cases q
   refine Mp (by simp) n2 (fun g=>?_) (fun g hg=>?_)
   ·show gV (List.lookup g [(f,y)]) (if g=f then some u else none)
    rw[iy]
    by_cases q:g=f
    ·rw[aA q,cS.mpr q];exact ry
    ·rw[aq q,nI.mpr q];exact True.intro
   ·by_cases q:g=f
    ·rw[q];simp
    ·exact absurd (aq q) hg
  ·rw[ah hb]at q
   exact(I2.ar b o q).f' (fun _ _ _ z=>z) (fun c z=>by rw[ah (ao z uk)];exact z) fun c xs z=>by rw[ah (ao z uk)];exact z
theorem UI {y:V}{u:Value}{Q:Unit->Shared->Prop} (I:Inv X pins σ H s) (e:H a=some (bJ C (some d) a)) (ed:H d=some (dv d fs)) (c:dh X.K C) (no:findIn X.K (.ref C) f=some none) (ry:RelV y u) (bb:fs.length < 100)
  (h:∀s',Inv X pins σ (upd H d (dv d (ie f y fs))) s'->Q () s'):wpAny (model X.prog X.w) A (setAttr (.ref a) f u) Q E s:=by
 obtain⟨t,at_⟩:=I.excAt e
 obtain⟨_,mA,n,r,wi⟩:=I.vt ed
 obtain⟨od,k6,look⟩:=rW n
 have J:InstAt s.heap a _ C (some od):=⟨at_,rfl,rfl,k6⟩
 refine PySem.W.set_plain I.a7 J c.sa (Le (s:={ s with toks:=s.toks+1 }) I.a7 J c no ?_)
 obtain⟨cls,ic,tF⟩:=x9 c.hd
 refine af (aB (af (show wpAny _ _ (instanceDict a true) _ _ _ from ?_)))
 refine af (ya (s:={ s with toks:=s.toks+1 }) at_ (af (JQ (s:={ s with toks:=s.toks+1 }) (looks_clsIn I.a7 ic) ?_)))
 rw[tF]
 refine aB (a:=some d) (af (aB (af (wpAny_nsSet1 (s:={ s with toks:=s.toks+1 }) n fun h2 n2 sb=>?_))))
 obtain⟨oD,esD,epD,zL,Gf,Gg⟩:=n2.count (PySem.Within.cons f u wi)
 refine af (wpAny_lookBehind zL (by rw[Gf];exact pastItsLine_dict (cK Gg (by rw[dZ,aE,aI];omega))) (aB ?_))
 refine h _ (I.write (t':=s.toks+2) (x:=d) (e:=d) (by rw[ed];exact True.intro) (.inl rfl) (fun b o hb q=>(sb.2 b hb).trans q) ⟨oD,zL⟩ ?_)
 refine Mp (by have:=Ks f y fs;omega) n2 (fun g=>?_) (fun g hg=>?_)
 ·show gV ((ie f y fs).lookup g) (if g=f then some u else mA g)
  rw[Kr]
  by_cases q:g=f
  ·rw[aA q,aA q];exact ry
  ·rw[aq q,aq q];exact r g
 ·by_cases q:g=f
  ·rw[q];exact(Bs f y fs).1
  ·exact(Bs f y fs).2 g (wi g fun z=>hg ((aq q).trans z))
end
end L2
namespace L2
open PySem PySem.Spec PyProof.Rows PySem.W
mutual
inductive Rep (H:Hp):V->PyData->Prop where
 | aD:Rep H .aD .none
 | bl (b:Bool):Rep H (.bl b) (.bool b)
 | int (i:Int):Rep H (.int i) (.int i)
 | str (x:Str):Rep H (.str x) (.str x)
 | lst {a:Addr}{xs:List V}{ds:List PyData}:H a=some (.lst xs)->gq H xs ds->Rep H (.ref a) (.list ds)
 | tup {a:Addr}{xs:List V}{ds:List PyData}:H a=some (.tup xs)->gq H xs ds->Rep H (.ref a) (.tuple ds)
inductive gq (H:Hp):List V->List PyData->Prop where
 | nil:gq H [] []
 | cons {x:V}{d:PyData}{xs:List V}{ds:List PyData}:Rep H x d->gq H xs ds->gq H (x::xs) (d::ds)
end
section
variable {X : Cx} {pins : List (Addr × Obj)} {σ : St} {H H' : Hp} {s : Shared}
mutual
theorem Rep.reads (I:Inv X pins σ H s):∀ {v:V}{d:PyData}{u:Value},Rep H v d->RelV v u -> ∃as,Reads s.heap u d as
 | _,_,_,.aD,r=>by cases r;exact⟨_,.none⟩
 | _,_,_,.bl b,r=>by cases r;exact⟨_,.bool b⟩
 | _,_,_,.int i,r=>by obtain⟨t,rfl⟩:=r;exact⟨_,.int i t⟩
 | _,_,_,.str x,r=>by obtain⟨t,rfl⟩:=r;exact⟨_,.str x t⟩
 | _,_,_,.lst (a:=a) (xs:=xs) e rs,r=>by
  cases r
  obtain⟨_,its,n,rv,at_⟩:=(show bt X.prog X.w H s.heap a (.lst xs) from I.ar a _ e)
  obtain⟨as,ra⟩:=gq.reads I rs rv
  exact⟨_,.list at_ rfl rfl ra⟩
 | _,_,_,.tup (a:=a) (xs:=xs) e rs,r=>by
  cases r
  obtain⟨_,its,rv,ob,at_,hc,n,hd,_⟩:=(show bt X.prog X.w H s.heap a (.tup xs) from I.ar a _ e)
  obtain⟨as,ra⟩:=gq.reads I rs rv
  exact⟨_,.tuple at_ hc hd ra⟩
theorem gq.reads (I:Inv X pins σ H s):∀ {vs:List V}{ds:List PyData}{us:List Value},gq H vs ds->Vals vs us -> ∃as,ReadsAll s.heap us ds as
 | _,_,_,.nil,r=>by cases r;exact⟨_,.nil⟩
 | _,_,_,.cons r rs,rv=>by
  cases rv with
  | cons q qs =>
   obtain⟨as,h1⟩:=Rep.reads I r q
   obtain⟨bs,h2⟩:=gq.reads I rs qs
   exact⟨_,.cons h1 h2⟩
end
mutual
theorem Rep.same:∀ {v:V}{d:PyData},Rep H v d->ak H H'->Rep H' v d
 | _,_,.aD,_=>.aD
 | _,_,.bl b,_=>.bl b
 | _,_,.int i,_=>.int i
 | _,_,.str x,_=>.str x
 | _,_,.lst e rs,k=>.lst (k _ _ e) (gq.same rs k)
 | _,_,.tup e rs,k=>.tup (k _ _ e) (gq.same rs k)
theorem gq.same:∀ {vs:List V}{ds:List PyData},gq H vs ds->ak H H'->gq H' vs ds
 | _,_,.nil,_=>.nil
 | _,_,.cons r rs,k=>.cons (Rep.same r k) (gq.same rs k)
end
end
section
variable {X : Cx}
def wc:R2:=fun x y H Q=>∃da db,Rep H x da/\Rep H y db/\da.canLay0=true/\db.canLay0=true/\da.depth<=60/\Q (.bl (PyData.eqv da db)) H
def we:R2:=fun x y H Q=>∃da db,Rep H x da/\Rep H y db/\da.canLay0=true/\db.canLay0=true/\da.depth<=60/\Q (.bl (!PyData.eqv da db)) H
theorem sL (hu:X.A.units+64 < cLine):cA X (compareOp .Eq) wc:=by
 intro pins s σ H x y v u Q I rx ry h
 obtain⟨da,db,r1,r2,l1,l2,dp,q⟩:=h
 obtain⟨as,h1⟩:=r1.reads I rx
 obtain⟨bs,h2⟩:=r2.reads I ry
 exact SeqAt.compareEq_reads h1 h2 l1 l2 (by omega) ⟨.bl _,H,I,rfl,q⟩
theorem mx (hu:X.A.units+64 < cLine):cA X (compareOp .NotEq) we:=by
 intro pins s σ H x y v u Q I rx ry h
 obtain⟨da,db,r1,r2,l1,l2,dp,q⟩:=h
 obtain⟨as,h1⟩:=r1.reads I rx
 obtain⟨bs,h2⟩:=r2.reads I ry
 exact SeqAt.compareNe_reads h1 h2 l1 l2 (by omega) ⟨.bl _,H,I,rfl,q⟩
def lE (H:Hp) (x:V):Prop:=(∃z:Str,x = .str z/\z.length<=100000)\/x = .aD \/ ∃a d,x = .ref a/\Rep H x d/\d.showable=true/\d.hasDict=false/\d.depth<=50/\d.shown.length<=100000
def aaj (te:TE):TE:=fun σ H Q=>te σ H fun x H1=>lE H1 x /\ ∀y:Str,y.length<=100000->Q (.str y) H1
theorem vA {e:Expr}{te:TE}{pos:Pos} (hu:X.A.units+64 < cLine) (hg:X.A.guards=some []) (he:PE X e te):PE X (.FormattedValue e (-1) none pos) (aaj te):=by
 intro pins s σ H Q I h
 refine wpAny_FormattedValue_plain (au (he pins s σ H _ I h) fun v s1 ⟨x,H1,I1,rx,f,q⟩=>?_)
 rcases f with⟨z,rfl,hz⟩|rfl | ⟨a,d,rfl,rd,hs,hd,hp,hl⟩
 ·obtain⟨t,rfl⟩:=rx
  exact wpAny_formatField_str ⟨.str z,H1,I1,⟨_,rfl⟩,q z hz⟩ ⟨.str z,H1,I1.tok _,⟨_,rfl⟩,q z hz⟩ (by rw[aI];omega)
 ·cases rx
  exact wpAny_formatField_none ⟨.str "None", H1,I1.tok _,⟨_,rfl⟩,q _ (by decide)⟩
 ·obtain⟨as,r⟩:=rd.reads I1 rx
  cases rx
  exact formatField_of_reads r hs (fun z=>by rw[hd]at z;cases z) hg (by omega) (fun _ _ z=>z) (fun h' u tk k=>⟨.str d.shown,H1,I1.kept k,⟨_,rfl⟩,q _ hl⟩) (by rw[aI];omega)
def PJ (X:Cx) (vs:List Expr) (n:Nat) (t:St->Hp->(Hp->Prop)->Prop):Prop:=
 ∀ (pins:List (Addr×Obj)) (s:Shared) (σ:St) (H:Hp) (acc:Str) (Q:Hp->Prop),acc.length+n * 100000<=2000000->Inv X pins σ H s->t σ H Q ->
  Joins (model X.prog X.w) X.A X.xe (evalEach vs X.env) acc (fun out s1=>out.length<=2000000 /\ ∃H1,Inv X pins σ H1 s1/\Q H1) s
def Yp (te:TE) (tr:St->Hp->(Hp->Prop)->Prop):St->Hp->(Hp->Prop)->Prop:=fun σ H Q=>te σ H fun x H1=>(∃y:Str,x = .str y/\y.length<=100000)/\tr σ H1 Q
def Yq:St->Hp->(Hp->Prop)->Prop:=fun _ H Q=>Q H
theorem Cj:PJ X [] 0 Yq:=fun pins s σ H acc Q hz I h=>⟨by omega,H,I,h⟩
theorem lz {v:Expr}{vs:List Expr}{n:Nat}{te:TE}{tr:St->Hp->(Hp->Prop)->Prop} (hv:PE X v te) (hr:PJ X vs n tr):PJ X (v::vs) (n+1) (Yp te tr):=by
 intro pins s σ H acc Q hz I h
 refine au (hv pins s σ H _ I h) fun u s1 ⟨x,H1,I1,rx,⟨y,e,hy⟩,q⟩=>?_
 subst e
 obtain⟨t,rfl⟩:=rx
 have hl:(acc++y).length=acc.length+y.length:=strLen_append ..
 exact⟨y,t,rfl,by rw[hl,aI];omega,hr pins s1 σ H1 (acc++y) Q (by rw[hl];omega) I1 q⟩
def Y8 (tr:St->Hp->(Hp->Prop)->Prop):TE:=fun σ H Q=>tr σ H fun H1=>∀y:Str,y.length<=2000000->Q (.str y) H1
theorem B7 {v1 v2:Expr}{rest:List Expr}{pos:Pos}{n:Nat}{tr:St->Hp->(Hp->Prop)->Prop} (hr:PJ X (v1::v2::rest) n tr) (hn:n<=20:=by decide):PE X (.JoinedStr (v1::v2::rest) pos) (Y8 tr):=by
 intro pins s σ H Q I h
 have z:=hr pins s σ H Str.empty _ (by have:Str.empty.length=0:=rfl;omega) I h
 refine wpAny_JoinedStr ?_
 have mono:∀ (l:List (Sem Value)) (acc:Str) (P P':Str->Shared->Prop) (s:Shared),(∀o s,P o s->P' o s)->Joins (model X.prog X.w) X.A X.xe l acc P s->Joins (model X.prog X.w) X.A X.xe l acc P' s:=by
  intro l
  induction l with
  | nil=>intro acc P P' s k q;exact k _ _ q
  | cons a l ih=>intro acc P P' s k q;exact au q fun v s1 ⟨y,t,e,hz,q'⟩=>⟨y,t,e,hz,ih _ P P' s1 k q'⟩
 refine mono _ _ _ _ _ ?_ z
 rintro o s1 ⟨hz,H1,I1,q⟩
 exact⟨by rw[aI];omega,.str o,H1,I1.tok _,⟨_,rfl⟩,q o hz⟩
end
end L2
namespace L2
open PySem PySem.Spec PyProof.Rows PySem.W
section
variable {X : Cx} {pins : List (Addr × Obj)} {σ : St} {H : Hp} {s : Shared} {C fI : Addr} {us : List Value} {vs : List V} {Q : VK} {CX : jX} {k : Nat} {fd : FuncData} {ps : List Str} {sp : Sp} {E : XK} {x : Str} {p pos : Pos} {e : Expr} {es : List Expr} {t : TA}
theorem We (q:dI X.K C none=true) (I:Inv X pins σ H s) (bb:us.length<=100) (h:∀e,H e=none->Q (.ref e) (upd H e (bJ C none e))):wpAny (model X.prog X.w) X.A (call (.ref C) us) (EP X pins σ Q) X.xe s:=by
 obtain⟨⟨up,N,nm,qn,bs,hd,sn,sb,ab,col,od,a0,a1,a2,a3,a5,mN,at_,ns,ni,T⟩⟩:=pU I.a7 q
 obtain⟨hp,g,d,tk,os⟩:=s
 refine wpAny_call_exc_subT JR T at_ ns ni (fun h' e m=>?_) (by rw[aI];omega)
 obtain⟨kp,new,t,at2,_,_⟩:=m
 exact⟨.ref e,_,Inv.put (s:=⟨hp,g,d,tk,os⟩) I kp new (vq at2),rfl,h e (Inv.yO (s:=⟨hp,g,d,tk,os⟩) I new)⟩
def Y9 (C:Addr) (t:TA):TE:=fun σ H Q=>t σ H fun vs H1=>vs.length<=100 /\ ∀e,H1 e=none->Q (.ref e) (upd H1 e (bJ C none e))
theorem Xi (q:dI X.K C none=true) (kp:keepIn X.K (.ref C)=true) (hg:Gl X x) (hm:X.mg x=some (.ref C)) (ha:PA X (e::es) t) (gY:(x==("__debug__" : Str))=false:=by decide)
  (he:starEach (e::es) X.env=(false,eval e X.env)::starEach es X.env:=by rfl) (cB:(backTo pos (starEach es X.env)).any (·.1)=false:=by rfl):PE X (.Call (.Name x p) (e::es) [] pos) (Y9 C t):=by
 intro pins s σ H Q I h
 refine pI (ly I hg hm ?_ gY)
 refine AK (h₀:=X.base) I.ok.mod.iM kp (au (ha pos pins s σ H _ I h) fun us s1 ⟨vs,H1,I1,r,bb,q1⟩=>⟨I1.a7,?_⟩) he cB
 exact We q I1 (by show us.length<=100;rw[<-r.length];exact bb) q1
theorem Wf (q:dI X.K C (some (.ref fI))=true) (fn:isFn X.K (.ref fI)=true) (F:aG X.prog X.w X.K X.mg X.base CX k fI fd ps sp) (hr:aT (k+1) X.A) (hb:Binds X.K fd ps []) (hx:Passes CX X E) (I:Inv X pins σ H s) (r:Vals vs us) (bb:us.length<=100)
  (h:∀e,H e=none->sp (.ref e::vs) (upd H e (bJ C none e)) (fun v H2=>v = .aD/\Q (.ref e) H2) E):wpAny (model X.prog X.w) X.A (call (.ref C) us) (EP X pins σ Q) X.xe s:=by
 obtain⟨⟨up,N,nm,qn,bs,hd,sn,sb,ab,col,od,a0,a1,a2,a3,a5,mN,at_,ns,ni,T⟩⟩:=pU I.a7 q
 obtain⟨oI,lk,oc⟩:=iS.mp (show(X.K.lookup fI).map (·.cls)=some (.type "function") from cS.mp fn)
 have h1:=h (s.heap.objs.size+1) (I.ar.fresh (nN _))
 have a7:=I.a7
 have I2:Inv X pins σ (upd H (s.heap.objs.size+1) (bJ C none (s.heap.objs.size+1))) { s with heap:=jT s.heap C us }:=I.put (fun _ _ z=>rQ z) (uQ (nN _)) (vq Bv)
 have e0:=I2.vW.make C us []
 have um:=hr.make C us []
 have r2:Vals (V.ref (s.heap.objs.size+1)::vs) (Value.ref (s.heap.objs.size+1)::us):= .cons rfl r
 have hl:(Value.ref (s.heap.objs.size+1)::us).length=ps.length:=by rw[<-r2.length];exact F.len _ _ _ _ h1
 have oU:=hb { s with heap:=jT s.heap C us } (Value.ref (s.heap.objs.size+1)::us) I2.a7 (by rw[eV];exact hl)
 rw[eV]at oU
 have run:=F.run _ X.stack _ _ ⟨Value.ref (s.heap.objs.size+1)::us,[]⟩ (Value.ref (s.heap.objs.size+1)::us) _ _ E um e0 oU r2 h1
 obtain⟨hp,g,d,tk,os⟩:=s
 refine Kj JR T at_ ns ni (a7 _ _ lk) oc (by rw[aI];omega) (nL (pH run fun r s' hq=>?_))
 cases r with
 | error e=>exact hx pins σ _ _ e s' I2 hq
 | ok fl =>
  cases fl with
  | ret u =>
   obtain⟨v,H',I3,rv,ev,q3⟩:=I2.after hq
   subst ev
   exact⟨rv,.ref (hp.objs.size+1),H',I3,rfl,q3⟩
  | next=>exact False.elim hq
  | brk=>exact False.elim hq
  | cont=>exact False.elim hq
def Np (C:Addr) (sp:Sp) (E:XK) (t:TA):TE:=fun σ H Q=>t σ H fun vs H1=>vs.length<=100 /\ ∀e,H1 e=none->sp (.ref e::vs) (upd H1 e (bJ C none e)) (fun v H2=>v = .aD/\Q (.ref e) H2) E
theorem Xj (q:dI X.K C (some (.ref fI))=true) (fn:isFn X.K (.ref fI)=true) (kp:keepIn X.K (.ref C)=true) (F:aG X.prog X.w X.K X.mg X.base CX k fI fd ps sp) (hr:aT (k+1) X.A) (hb:Binds X.K fd ps []) (hx:Passes CX X E)
  (hg:Gl X x) (hm:X.mg x=some (.ref C)) (ha:PA X (e::es) t) (gY:(x==("__debug__" : Str))=false:=by decide)
  (he:starEach (e::es) X.env=(false,eval e X.env)::starEach es X.env:=by rfl) (cB:(backTo pos (starEach es X.env)).any (·.1)=false:=by rfl):PE X (.Call (.Name x p) (e::es) [] pos) (Np C sp E t):=by
 intro pins s σ H Q I h
 refine pI (ly I hg hm ?_ gY)
 refine AK (h₀:=X.base) I.ok.mod.iM kp (au (ha pos pins s σ H _ I h) fun us s1 ⟨vs,H1,I1,r,bb,q1⟩=>⟨I1.a7,?_⟩) he cB
 exact Wf q fn F hr hb hx I1 r (by show us.length<=100;rw[<-r.length];exact bb) q1
structure vB (K:Frag) (B:Addr):Prop where
 rd:readsIn K B (.type "type")=true
 ga:specialIn K (.ref B) "__getattribute__" = some (some (.builtin "type.__getattribute__"))
 fi:findCls K (.ref B) (.type "type") "__init__" = some (.val (.builtin "ValueError.__init__"))
theorem Uv {a:Addr}{dx:Option Addr}{u:Value}{i:Option Value} (c:dh X.K C) (q:dI X.K C i=true) (I:Inv X pins σ H s) (e:H a=some (bJ C dx a)) (h:Q .aD H) :
  wpAny (model X.prog X.w) X.A (call (.builtin "ValueError.__init__") [.ref a,u]) (EP X pins σ Q) X.xe s:=by
 obtain⟨t,at_⟩:=I.excAt e
 obtain⟨⟨up,N,nm,qn,bs,hd,sn,sb,ab,col,od,a0,a1,a2,a3,a5,mN,atC,ns,ni,T⟩⟩:=pU I.a7 q
 have FI:=JR
 obtain⟨hp,g,d,tk,os⟩:=s
 refine nL (JN FI.init.plain FI.initEntry (wpAny_check_init_subT (rest:= [u]) FI T atC at_ rfl ?_))
 have gk:(hp.push { cls:= .type "tuple", data:= .seq #[u] }).get? a=some { cls:= .ref C,dict:=dx,data:= .fields #[.ref t,.none,.none,.none,.bool false,.none] }:=bj _ at_
 have at2:((hp.push { cls:= .type "tuple", data:= .seq #[u] }).update a (Obj.mapFields fun z=>z.setIfInBounds 0 (.ref hp.objs.size))).get? a=some { cls:= .ref C,dict:=dx,data:= .fields #[.ref hp.objs.size,.none,.none,.none,.bool false,.none] }:=pJ _ gk rfl
 have fin:∀nz,EP X pins σ Q .none ⟨(hp.push { cls:= .type "tuple", data:= .seq #[u] }).update a (Obj.mapFields fun z=>z.setIfInBounds 0 (.ref hp.objs.size)),g,d,nz,os⟩:=fun nz=>by
  refine⟨.aD,upd H a (bJ C dx a),?_,rfl,?_⟩
  ·exact Inv.write (s:=⟨hp,g,d,tk,os⟩) I (x:=a) (e:=a) (t':=nz) (by rw[e];exact True.intro) (.inl rfl) (fun b o hb z=>by rw[jg _ _ (aO hb)];exact bj _ z) ⟨_,at2⟩ (vq at2)
  ·have:upd H a (bJ C dx a)=H:=by
    funext b;unfold upd
    by_cases hb:b=a
    ·rw[aA hb,hb,e]
    ·rw[aq hb]
   rw[this];exact h
 wp_walk
 exact fin _
def Vz (X:Cx) (t:TA):TE:=fun σ H Q=>t σ H fun vs H1=>∃a C dx y i,vs = [.ref a,y]/\H1 a=some (bJ C dx a)/\dh X.K C/\dI X.K C i=true/\Q .aD H1
theorem Kw {B:Addr}{apos:Pos}{pl:Sem Bool} (b:vB X.K B) (hg:Gl X x) (hm:X.mg x=some (.ref B)) (ha:PA X (e::es) t) (gY:(x==("__debug__" : Str))=false:=by decide)
  (he:starEach (e::es) X.env=(false,eval e X.env)::starEach es X.env:=by rfl) (cB:(backTo pos (starEach es X.env)).any (·.1)=false:=by rfl)
  (ht:eval (.Call (.Attribute (.Name x p) "__init__" apos) (e::es) [] pos) X.env=(do
   let ov <- eval (.Name x p) X.env
   standAt apos.atName
   let (f,first) <- holding [ov] (getMethod ov "__init__" pl)
   callWith pos f first (backTo pos (starEach (e::es) X.env)) (backToKw pos (keywordEach [] X.env))):=by rfl) :
  PE X (.Call (.Attribute (.Name x p) "__init__" apos) (e::es) [] pos) (Vz X t):=by
 intro pins s σ H Q I h
 refine methodCall_KW (pl:=pl) (ly I hg hm ?_ gY) ht
 refine method_cls I.a7 b.ga (cls_value I.a7 b.rd b.fi rfl ?_)
 refine akL (au (ha pos pins { s with toks:=s.toks+1 } σ H _ (I.tok _) h) fun us s1 ⟨vs,H1,I1,r1,q1⟩=>?_) he cB
 obtain⟨a,C,dx,y,i,rfl,ea,c,qi,q⟩:=q1
 obtain⟨u1,u2,rfl,r2,r3⟩:=r1.two
 cases r2
 exact Uv c qi I1 ea q
end
section
variable {X : Cx} {o value e : Expr} {f : Str} {pos pos' : Pos} {ta tv : TE}
def Y' (X:Cx) (ta tv:TE) (f:Str):TS:=fun D σ H=>tv σ H fun y H1=>ta σ H1 fun x H2=>∃a C,x = .ref a/\H2 a=some (bJ C none a)/\dh X.K C/\findIn X.K (.ref C) f=some none /\
 ∀d,H2 d=none->d≠a->D.nx σ (upd (upd H2 d (dv d [(f,y)])) a (bJ C (some d) a))
theorem Mq (ha:PE X o ta) (hv:PE X value tv) (hs:swapsWith value (some (.Attribute o f pos')) pos.line X.env=pure false:=by rfl):PS X (.Assign [.Attribute o f pos'] value pos) (Y' X ta tv f):=by
 intro pins s σ H D I h
 refine akX (au (hv pins s σ H _ I h) fun u s1 ⟨y,H1,I1,ry,q⟩=>au (ha pins s1 σ H1 _ I1 q) fun ov s2 ⟨x,H2,I2,rx,a,C,ex,ea,c,n,q2⟩=>?_) hs
 subst ex
 obtain rfl:ov=Value.ref a:=rx
 exact U4 I2 ea c n ry fun d s3 h1 h2 I3=>⟨σ,_,I3,q2 d h1 h2⟩
def Yr (X:Cx) (ta tv:TE) (f:Str):TS:=fun D σ H=>tv σ H fun y H1=>ta σ H1 fun x H2=>∃a C d fs,x = .ref a/\H2 a=some (bJ C (some d) a)/\H2 d=some (dv d fs)/\dh X.K C/\findIn X.K (.ref C) f=some none/\fs.length < 100 /\
 D.nx σ (upd H2 d (dv d (ie f y fs)))
theorem LN (ha:PE X o ta) (hv:PE X value tv) (hs:swapsWith value (some (.Attribute o f pos')) pos.line X.env=pure false:=by rfl):PS X (.Assign [.Attribute o f pos'] value pos) (Yr X ta tv f):=by
 intro pins s σ H D I h
 refine akX (au (hv pins s σ H _ I h) fun u s1 ⟨y,H1,I1,ry,q⟩=>au (ha pins s1 σ H1 _ I1 q) fun ov s2 ⟨x,H2,I2,rx,a,C,d,fs,ex,ea,ed,c,n,bb,q2⟩=>?_) hs
 subst ex
 obtain rfl:ov=Value.ref a:=rx
 exact UI I2 ea ed c n ry bb fun s3 I3=>⟨σ,_,I3,q2⟩
def aak (K:Frag):List V->Hp->VK->Prop:=fun xs H Q=>∃x c t cv b,xs = [x,c]/\RelV c cv/\(jx K H x t \/ ∃a C dx,x = .ref a/\t = .ref C/\H a=some (bJ C dx a)/\dh K C/\(∀d,dx=some d -> ∃fs,H d=some (dv d fs)))/\kitOne K t cv=some b/\Q (.bl b) H
theorem BN:df X (.builtin "isinstance") (fun xs H Q=>(∃x,(∃C,xs = [x,.ref C])\/(∃T,xs = [x,.ty T]))/\aak X.K xs H Q):=by
 intro pins s σ H xs us Q I r h
 obtain⟨hx,x,c,t,cv,b,rfl,rc,ty,e,q⟩:=h
 obtain⟨u,w',rfl,ru,gx⟩:=r.two
 have Gh:w'=cv:=by
  obtain⟨x',⟨C,z⟩|⟨T,z⟩⟩:=hx
  ·cases z;cases rc;cases gx;rfl
  ·cases z;cases rc;cases gx;rfl
 subst Gh
 rcases ty with ty | ⟨a,C,dx,rfl,rfl,ea,c,hd⟩
 ·exact Vu I ru ty e fun tk=>⟨.bl b,H,I.tok _,rfl,q⟩
 ·cases ru
  obtain⟨t,at_⟩:=I.excAt ea
  cases dx with
  | none =>
   have J:InstAt s.heap a _ C none:=⟨at_,rfl,rfl,True.intro⟩
   exact kia_one (yC c) I.a7 J e (fun z=>nomatch z) fun tk=>⟨.bl b,H,I.tok _,rfl,q⟩
  | some d =>
   obtain⟨fs,ed⟩:=hd d rfl
   obtain⟨_,mA,n,_⟩:=I.vt ed
   obtain⟨od,k6,_⟩:=rW n
   have J:InstAt s.heap a _ C (some od):=⟨at_,rfl,rfl,k6⟩
   exact kia_one (yC c) I.a7 J e (fun z=>nomatch z) fun tk=>⟨.bl b,H,I.tok _,rfl,q⟩
end
end L2
namespace L2
open PySem PySem.Spec PyProof.Rows PySem.W
def w8 (K:Frag) (l:Addr):It:=
 ⟨fun i H=>∃xs x,aj K H l xs/\xs[i]? = some x,fun i H x H'=>∃t v,H t=none/\x = .ref t/\(∀xs,aj K H l xs->xs[i]? = some v)/\H'=upd H t (.tup [.int i,v]),fun i H=>∃xs,aj K H l xs/\xs.length<=i⟩
theorem VA {P:Program}{w:World}{K:Frag}{elts:List Expr}{n1:Nat}{tp:Pos} (l e it:Addr) (bc:e≠it) :
  Turn P w K (.Tuple elts n1 tp) (w8 K l) [e,it] e (fun i h=>(∃old,IsEnum h e it i old)/\h.IsListIter it l i) where
 mem:=by simp
 obj:=fun i h st b hb=>by
  obtain⟨⟨old,h1⟩,h2⟩:=st
  rcases bq.mp hb with z | z
  ·subst z;exact⟨_,h1,fun v q=>by cases q⟩
  ·have z':b=it:=by simpa using z
   subst z'
   obtain⟨o,q,_,d⟩:=h2
   exact⟨o,q,fun v z=>by rw[d]at z;cases z⟩
 keep:=fun i h h' st k=>by
  obtain⟨⟨old,h1⟩,h2⟩:=st
  exact⟨⟨old,k e (by simp) _ h1⟩,h2.at fun o q=>k it (by simp) o q⟩
 item:=by
  intro X hP hw hK hc i pins s σ H E I hf st hg
  subst hP hw hK
  obtain⟨xs,x,hq,hx⟩:=hg
  obtain⟨its,rv,p,hz⟩:=I.list hq
  obtain⟨u,hu,ru⟩:=rv.get hx
  obtain⟨⟨old,h1⟩,h2⟩:=st
  have fe:=hf e (by simp)
  have fi:=hf it (by simp)
  refine wpAny_pyNext_enum_item h1 h2 p.isList (x:=u) (by simpa using hu) bc fun h' e1 i1 t1 z1 k1=>⟨_,rfl,?_⟩
  refine wpAny_letOwnedTupleGo_enum (s:={ s with heap:=h',toks:=s.toks+1 }) e1 fun ir e2 sb=>?_
  have eS:e≠s.heap.objs.size:=bh (aU h1)
  have k2:∀b o,b≠e->b≠it->s.heap.get? b=some o->ir.get? b=some o:=fun b o n1 n2 q=>(sb.2 b n1).trans (k1 b o n1 n2 q)
  have t2:ir.get? s.heap.objs.size=some { cls:= .type "tuple", data:= .seq #[.int i s.toks,u] }:=(sb.2 _ (aO eS)).trans t1
  have hn:H s.heap.objs.size=none:=I.ar.fresh (aN _)
  have lt:∀b o,s.heap.get? b=some o->b≠s.heap.objs.size:=fun b o q=>bh (aU q)
  have iL:∀b o,H b=some o->b≠e/\b≠it:=fun b o q=>⟨(fun z=>by rw[z,fe.1]at q;cases q),(fun z=>by rw[z,fi.1]at q;cases q)⟩
  have gf:∀b,b ∉ [e,it]->b≠e/\b≠it:=fun b hb=>⟨fun z=>hb (by simp[z]),fun z=>hb (by simp[z])⟩
  have J:Inv X pins σ (upd H s.heap.objs.size (.tup [.int i,x])) { s with heap:=ir,toks:=s.toks+1 }:=by
   refine I.step (g':=s.gens) (d':=s.drawn) (t':=s.toks+1) (ch:= [e,it]) (fun b hb=>?_) (fun b o _ _ hc q _=>k2 b o (gf b hc).1 (gf b hc).2 q) (fun b o _ _ hc q _=>⟨o.slots,k2 b o (gf b hc).1 (gf b hc).2 q⟩)
    (fun b o _ q n=>by rw[ah (lt b o q)];exact n) (fun b o hc q=>⟨o,k2 b o (gf b hc).1 (gf b hc).2 q⟩) (fun b ys q=>by rw[ah (ao q hn)];exact q) (fun b o v q=>by rw[ah (ao q hn)];exact q)
    (fun b ps q=>⟨#[],by rw[ah (ao q hn),q];simp⟩) (fun m hm=>?_) (fun b o q=>?_) I.bare
   ·rcases bq.mp hb with z | z
    ·subst z;exact⟨fe.2.2.2.1,fe.2.1,fe.2.2.2.2.1,fe.2.2.2.2.2⟩
    ·have z':b=it:=by simpa using z
     subst z';exact⟨fi.2.2.2.1,fi.2.1,fi.2.2.2.2.1,fi.2.2.2.2.2⟩
   ·obtain⟨o,es,ep,ho,r⟩:=hm
    exact⟨o,es,ep,k2 _ o (aO fe.2.1) (aO fi.2.1) ho,r⟩
   ·by_cases hb:b=s.heap.objs.size
    ·subst hb
     rw[ag]at q;cases q
     exact⟨by rw[aI];show 2<=_;decide,[.int i s.toks,u],.cons ⟨_,rfl⟩ (.cons ru .nil),_,t2,rfl,_,rfl,rfl⟩
    ·rw[ah hb]at q
     refine(I.ar b o q).f' (fun c v hc z=>?_) (fun c z=>by rw[ah (ao z hn)];exact z) fun c ys z=>by rw[ah (ao z hn)];exact z
     rcases hc with hc | hc
     ·subst hc;exact k2 _ v (iL _ _ q).1 (iL _ _ q).2 z
     ·exact k2 c v (iL _ _ hc).1 (iL _ _ hc).2 z
  refine⟨.ref s.heap.objs.size,_,J,rfl,⟨s.heap.objs.size,x,hn,rfl,fun ys hy=>by rw[I.vg hy hq];exact hx,rfl⟩,⟨⟨u,e2⟩,?_⟩,fun b hb=>?_⟩
  ·exact i1.extBut sb.extBut (aO bc)
  ·have:b≠s.heap.objs.size:=by
    rcases bq.mp hb with z | z
    ·rw[z];exact eS
    ·have z':b=it:=by simpa using z
     obtain⟨o,q,_⟩:=h2
     rw[z'];exact lt _ _ q
   rw[ah this];exact(hf b hb).1
 done:=by
  intro X hP hw hK hc i pins s σ H E I hf st hg
  subst hP hw hK
  obtain⟨xs,hq,hx⟩:=hg
  obtain⟨its,rv,p,hz⟩:=I.list hq
  obtain⟨⟨old,h1⟩,h2⟩:=st
  have fi:=hf it (by simp)
  have hl:=rv.length
  exact wpAny_pyNext_enum_end (I.ok.hd hc) h1 h2 p.isList (by simp;omega) fun h' eb=>⟨rfl,I.turned (t':=s.toks) (fun b o hb q=>eb b o hb q) fi.1 fi.2.1 fi.2.2.2.1 fi.2.2.2.2.1 fi.2.2.2.2.2⟩
 self:=fun _ _ _ _ _ st h=>let ⟨⟨_,h1⟩,_⟩:=st;wpAny_pyIter_enum h1 h
section
variable {X : Cx}
def Za (K:Frag) (ta:TA):TI:=fun σ H R=>ta σ H fun vs H1=>∃a,vs = [.ref a]/\(∃xs,aj K H1 a xs)/\R (w8 K a) H1
theorem Xk {a:Expr}{ta:TA}{p pos tp:Pos}{elts:List Expr}{n1:Nat} (hg:Gl X "enumerate") (hm:X.mg "enumerate" = none) (ha:PA X [a] ta) (hs:starEach [a] X.env = [(false,eval a X.env)]:=by rfl) :
  PI X (.Tuple elts n1 tp) (.Call (.Name "enumerate" p) [a] [] pos) (Za X.K ta):=by
 intro pins s σ H R I h
 refine Call_ (pZ I hg hm (show bootBuiltins "enumerate" = some (.type "enumerate") by decide +kernel) (AE (au (ha pos pins s σ H _ I h) fun us s1 ⟨vs,H1,I1,r1,q1⟩=>?_) hs rfl))
 obtain⟨l,e,⟨xs,hq⟩,q⟩:=q1
 subst e
 obtain⟨u,rfl,ru⟩:=r1.one
 cases ru
 obtain⟨its,rv,pl,hz⟩:=I1.list hq
 refine call_enumerate_list pl.isList fun h' e1 i1 z1 k1=>?_
 have I2:Inv X pins σ H1 { s1 with heap:=h' }:=I1.kept (t':=s1.toks) k1
 refine wpAny_pyIter_enum (s:={ s1 with heap:=h' }) e1 ?_
 refine⟨s1.heap.objs.size+1,[s1.heap.objs.size+1,s1.heap.objs.size],_,_,H1,rfl,I2,VA l (s1.heap.objs.size+1) s1.heap.objs.size (Nat.succ_ne_self _),⟨⟨.none,e1⟩,i1⟩,fun b hb=>?_,q⟩
 rcases bq.mp hb with z | z
 ·subst z;exact I1.kr (nN _) (I1.ar.fresh (nN _))
 ·have z':b=s1.heap.objs.size:=by simpa using z
  subst z';exact I1.kr (aN _) (I1.ar.fresh (aN _))
theorem yq:∀ {ys:List Str}{us:List Value},Vals (ys.map V.str) us->StrsAre us ys:=by
 intro ys
 induction ys with
 | nil=>intro us r;cases r;exact .nil
 | cons y ys ih =>
  intro us r
  cases r with
  | cons q qs =>
   obtain⟨t,rfl⟩:=q
   exact .cons _ _ (ih qs)
def rJoin (K:Frag):V->List V->Hp->VK->Prop:=fun x vs H Q=>∃ (z:Str) (p:Addr) (ys:List Str),x = .str z/\vs = [.ref p]/\(aj K H p (ys.map V.str)\/aJ K H p (ys.map V.str))/\(ys.map (·.length)).sum+ys.length * z.length<=1000000/\Q (.str (Txt.join z ys)) H
theorem Xl:PL X "str.join" (rJoin X.K):=by
 intro pins s σ H x xs v us Q I rx rv h
 obtain⟨z,p,ys,rfl,rfl,hp,hz,q⟩:=h
 obtain⟨t,rfl⟩:=rx
 obtain⟨u,rfl,ru⟩:=rv.one
 cases ru
 rcases hp with hp | hp
 ·obtain⟨its,r,pl,_⟩:=I.list hp
  exact join_list pl.isList (by simpa using yq r) (by omega) fun t' k=>⟨.str _,H,I.tok _,⟨_,rfl⟩,q⟩
 ·obtain⟨its,r,pl,_⟩:=I.tuple hp
  exact join_tuple pl (by simpa using yq r) (by omega) fun t' k=>⟨.str _,H,I.tok _,⟨_,rfl⟩,q⟩
def aal:V->Option Int->Option Int->Hp->VK->Prop:=fun x lo hi H Q=>∃z:Str,x = .str z/\z.length<=1000000/\Q (.str (Txt.slice z lo hi)) H
theorem Ys:zC X aal:=by
 intro pins s σ H x v vl vu lo hi sl Q I rx hs pl pu h
 obtain⟨z,rfl,hz,q⟩:=h
 obtain⟨t,rfl⟩:=rx
 have fz:(Txt.slice z lo hi).length<=sizeLine:=cK (Txt.slice_le z _ _) (by rw[aI];omega)
 refine⟨"str", _,PySem.F.slot_str_getitem.lookup,typeIs_str _ _ _,?_⟩
 cases pl with
 | none =>
  cases pu with
  | none=>exact JS (l:=none) (u:=none) (st:=none) hs rfl (JT ⟨fz,fun t' k=>⟨.str _,H,I.tok _,⟨_,rfl⟩,q⟩⟩)
  | int j tj=>exact JS (l:=none) (u:=some (j,tj)) (st:=none) hs rfl (JT ⟨fz,fun t' k=>⟨.str _,H,I.tok _,⟨_,rfl⟩,q⟩⟩)
 | int i ti =>
  cases pu with
  | none=>exact JS (l:=some (i,ti)) (u:=none) (st:=none) hs rfl (JT ⟨fz,fun t' k=>⟨.str _,H,I.tok _,⟨_,rfl⟩,q⟩⟩)
  | int j tj=>exact JS (l:=some (i,ti)) (u:=some (j,tj)) (st:=none) hs rfl (JT ⟨fz,fun t' k=>⟨.str _,H,I.tok _,⟨_,rfl⟩,q⟩⟩)
end
def CW (Pv:Nat->List V->St->Hp->Prop) (n i m:Nat) (ys:List V) (τ:St) (H:Hp):Prop:=m=n - i/\i<=n/\Pv i ys τ H
theorem cw_next {Pv:Nat->List V->St->Hp->Prop}{n i:Nat}{ys:List V}{τ:St}{H:Hp} (h:i < n) (p:Pv (i+1) ys τ H):∃m',m' < n - i/\CW Pv n (i+1) m' ys τ H:=⟨n - (i+1),by omega,rfl,h,p⟩
theorem KJ {lo:Int}{n:Nat}{g:TG}{ti:TT}{te:TE}{iq:St}{Q:VK}{p:Addr}{H1:Hp} (Pv:Nat->List V->St->Hp->Prop) (h0:Pv 0 [] iq (upd H1 p (.lst []))) (hl:∀i ys τ H,Pv i ys τ H->H p=some (.lst ys))
  (hs:∀i ys τ H,i < n->Pv i ys τ H->g (.int (lo+i)) τ H fun c7 H4=>ti c7 H4 fun b H5=>if b=true then te c7 H5 fun y H6=>H6 p=some (.lst ys)/\ys.length < sizeLine /\ ∃m',m' < n - i/\CW Pv n (i+1) m' (ys ++ [y]) c7 (upd H6 p (.lst (ys ++ [y]))) else ∃m',m' < n - i/\CW Pv n (i+1) m' ys c7 H5)
  (hd:∀ys τ H,Pv n ys τ H->Q (.ref p) H):ju (qH lo n) g ti te iq Q p H1:=by
 refine⟨CW Pv n,⟨n,by simp,a4 _,h0⟩,?_⟩
 rintro i m ys τ H ⟨rfl,hi,pv⟩
 refine⟨hl i ys τ H pv,?_⟩
 by_cases aS:i < n
 ·refine .inr ⟨aS,fun x H3 y3=>?_⟩
  obtain⟨e3,ex⟩:=y3
  subst e3 ex
  exact hs i ys τ _ aS pv
 ·have e:i=n:=by omega
  subst e
  exact .inl ⟨aN _,hd ys τ H pv⟩
theorem iV {K:Frag}{a:Addr}{xs:List V}{g:TG}{ti:TT}{te:TE}{iq:St}{Q:VK}{p:Addr}{H1:Hp} (Pv:Nat->List V->St->Hp->Prop) (h0:Pv 0 [] iq (upd H1 p (.lst []))) (hl:∀i ys τ H,Pv i ys τ H->H p=some (.lst ys)/\aj K H a xs)
  (hs:∀i x ys τ H,xs[i]? = some x->Pv i ys τ H->g x τ H fun c7 H4=>ti c7 H4 fun b H5=>if b=true then te c7 H5 fun y H6=>H6 p=some (.lst ys)/\ys.length < sizeLine /\ ∃m',m' < xs.length - i/\CW Pv xs.length (i+1) m' (ys ++ [y]) c7 (upd H6 p (.lst (ys ++ [y]))) else ∃m',m' < xs.length - i/\CW Pv xs.length (i+1) m' ys c7 H5)
  (hd:∀ys τ H,Pv xs.length ys τ H->Q (.ref p) H):ju (oO K a) g ti te iq Q p H1:=by
 refine⟨CW Pv xs.length,⟨xs.length,by simp,a4 _,h0⟩,?_⟩
 rintro i m ys τ H ⟨rfl,hi,pv⟩
 obtain⟨hp,hq⟩:=hl i ys τ H pv
 refine⟨hp,?_⟩
 by_cases aS:i < xs.length
 ·refine .inr ⟨⟨xs,xs[i],hq,by simp[aS]⟩,fun x H3 y3=>?_⟩
  obtain⟨e3,ex⟩:=y3
  subst e3
  exact hs i x ys τ _ (ex xs hq) pv
 ·have e:i=xs.length:=by omega
  subst e
  exact .inl ⟨⟨xs,hq,aN _⟩,hd ys τ H pv⟩
theorem mq {K:Frag}{a:Addr}{xs:List V}{g:TG}{ti:TT}{te:TE}{iq:St}{Q:VK}{p:Addr}{H1:Hp} (Pv:Nat->List V->St->Hp->Prop) (h0:Pv 0 [] iq (upd H1 p (.lst []))) (hl:∀i ys τ H,Pv i ys τ H->H p=some (.lst ys)/\aJ K H a xs)
  (hs:∀i x ys τ H,xs[i]? = some x->Pv i ys τ H->g x τ H fun c7 H4=>ti c7 H4 fun b H5=>if b=true then te c7 H5 fun y H6=>H6 p=some (.lst ys)/\ys.length < sizeLine /\ ∃m',m' < xs.length - i/\CW Pv xs.length (i+1) m' (ys ++ [y]) c7 (upd H6 p (.lst (ys ++ [y]))) else ∃m',m' < xs.length - i/\CW Pv xs.length (i+1) m' ys c7 H5)
  (hd:∀ys τ H,Pv xs.length ys τ H->Q (.ref p) H):ju (nh K a) g ti te iq Q p H1:=by
 refine⟨CW Pv xs.length,⟨xs.length,by simp,a4 _,h0⟩,?_⟩
 rintro i m ys τ H ⟨rfl,hi,pv⟩
 obtain⟨hp,hq⟩:=hl i ys τ H pv
 refine⟨hp,?_⟩
 by_cases aS:i < xs.length
 ·refine .inr ⟨⟨xs,xs[i],hq,by simp[aS]⟩,fun x H3 y3=>?_⟩
  obtain⟨e3,ex⟩:=y3
  subst e3
  exact hs i x ys τ _ (ex xs hq) pv
 ·have e:i=xs.length:=by omega
  subst e
  exact .inl ⟨⟨xs,hq,aN _⟩,hd ys τ H pv⟩
def N6 (N N':List Str) (b5:List (Option Nat)) (sc:Scope):Bool:=(List.range b5.length).all fun j=>match b5[j]? with
 | some (some i)=>(match N[i]? with | some x=>N'[j]? == some x && sc.names.lookup x==some .free | none=>false)
 | _=>true
theorem d7 {N N':List Str}{b5:List (Option Nat)}{sc:Scope} (h:N6 N N' b5 sc=true) (j i:Nat) (e:b5[j]? = some (some i)):∃x,N[i]? = some x/\N'[j]? = some x/\sc.names.lookup x=some .free:=by
 have hj:j < b5.length:=(b9.mp e).1
 have z:=pM.mp h j (l8.mpr hj)
 rw[e]at z
 dsimp only at z
 split at z
 ·rename_i x q
  obtain⟨z1,z2⟩:=iz.mp z
  exact⟨x,q,cS.mp z1,cS.mp z2⟩
 ·cases z
structure Nm (x:Str):Prop where
 lo:1<=x.length
 hi:x.length<=8
 az:∀c∈x.cps.toList,97<=c/\c<=122
def sign (c:Nat):Str:=⟨#[c]⟩
theorem KL:∀ (cs:List Nat) (acc:Array Nat),(cs.map sign).foldl (fun acc p=>acc++("" : Str).cps++p.cps) acc=acc++cs.toArray
 | [],acc=>by simp
 | c::cs,acc=>by
  rw[cD,List.foldl_cons,KL cs]
  have e:("" : Str).cps = #[]:=rfl
  rw[e]
  apply JU.mp
  simp[sign]
theorem U5 (cs:List Nat):Txt.join ("" : Str) (cs.map sign)=⟨cs.toArray⟩:=by
 unfold Txt.join Builtin.Str.glued
 cases cs with
 | nil=>rfl
 | cons c cs =>
  rw[cD]
  show(⟨(cs.map sign).foldl _ (sign c).cps⟩:Str)=_
  rw[KL]
  apply eT Str.mk
  apply JU.mp
  simp[sign]
theorem U6 {z:Str}{c:Nat} (h:c∈(Txt.slice z none (some 6)).cps.toList):c∈z.cps.toList:=by
 unfold Txt.slice at h
 split at h
 ·exact h
 ·simp only[pG]at h
  obtain⟨i,_,e⟩:=h
  obtain⟨_,e2⟩:=AL.mp e
  rw[<-e2];simp
theorem KN (z:Str):(Txt.slice z none (some 6)).length<=6:=by
 have hi:(Builtin.Str.strSliceIndices none (some 6) 1 z.length).length<=6:=by
  unfold Builtin.Str.strSliceIndices sliceRange
  simp only[show(1:Int) > 0 by decide,pK,aE,TB]
  split <;> (try split) <;> omega
 unfold Txt.slice
 split
 ·rename_i h
  have e:(Builtin.Str.strSliceIndices none (some 6) 1 z.length).length=z.length:=by simpa using h
  omega
 ·show(List.filterMap _ _).toArray.size<=6
  rw[cL]
  exact cK (TF _ _) hi
theorem vC (a b:Str):(a++b).cps=a.cps++b.cps:=rfl
theorem Xm {z:Str}{c:Nat} (hz:∀c∈z.cps.toList,97<=c/\c<=122) (hc:97<=c/\c<=122):Nm (Txt.slice z none (some 6)++sign c++("q" : Str)):=by
 have hq:("q" : Str).cps = #[113]:=by decide +kernel
 have hl:=KN z
 have e:(Txt.slice z none (some 6)++sign c++("q" : Str)).length=(Txt.slice z none (some 6)).length+2:=by
  show(_:Array Nat).size=_
  rw[vC,vC,hq]
  show(_ ++ #[c] ++ #[113]).size=_
  rw[JV,JV];rfl
 refine⟨by omega,by omega,fun d hd=>?_⟩
 rw[vC,vC,hq]at hd
 have wJ:d∈(Txt.slice z none (some 6)).cps.toList\/d=c\/d=113:=by
  have:d∈((Txt.slice z none (some 6)).cps ++ #[c] ++ #[113]).toList:=hd
  simp at this
  rcases this with h | h | h
  ·exact .inl (by simpa using h)
  ·exact .inr (.inl h)
  ·exact .inr (.inr h)
 rcases wJ with h | h | h
 ·exact hz d (U6 h)
 ·rw[h];exact hc
 ·rw[h];omega
theorem Wg {p:Str}{c d:Nat} (h:p++sign c++("q" : Str)=p++sign d++("q" : Str)):c=d:=by
 have h1:=eT (fun s:Str=>s.cps.toList) h
 simp only[vC]at h1
 have h2:p.cps.toList++([c]++("q" : Str).cps.toList)=p.cps.toList++([d]++("q" : Str).cps.toList):=by
  simpa [sign,Array.toList_append] using h1
 have h3:=List.append_cancel_left h2
 simpa using h3
theorem yP:∀ {ys found:List Str},ys.Nodup->found.length < ys.length -> ∃y∈ys,y ∉ found
 | [],found,_,h=>by simp at h
 | y::ys,found,nd,h=>by
  obtain⟨n1,n2⟩:=ix.mp nd
  by_cases hy:y∈found
  ·have hl:=akY hy
   have hp:=TH hy
   obtain⟨z,hz,hn⟩:=yP (found:=found.erase y) n2 (by rw[hl];rw[dZ]at h;omega)
   refine⟨z,bU _ hz,fun q=>hn ?_⟩
   have ne:z≠y:=fun e=>n1 (by rw[<-e];exact hz)
   exact(akZ ne).mpr q
  ·exact⟨y,ba,hy⟩
end L2
namespace L2
open PySem PySem.Spec PyProof.Rows PySem.W
section
variable {X : Cx}
theorem B8 (K:Frag) (h:X.K=K):cA X (compareOp .In) (uh K false):=by subst h;exact Bt
theorem Be (K:Frag) (h:X.K=K):cA X (compareOp .NotIn) (uh K true):=by subst h;exact u0
theorem Bw (K:Frag) (h:X.K=K):ug X (NW K):=by subst h;exact gH
theorem vj (K:Frag) (h:X.K=K):ug X (NX K):=by subst h;exact og
theorem Lg {tg l:Expr}{tl:TE} (K:Frag) (h:X.K=K) (hl:PE X l tl):PI X tg l (Ng K tl):=by subst h;exact gG hl
theorem LO {tg l:Expr}{tl:TE} (K:Frag) (h:X.K=K) (hl:PE X l tl):PI X tg l (NR K tl):=by subst h;exact mr hl
end
theorem ke (x:Str) (ys:List Str):zD (.str x) (ys.map V.str)=decide (x∈ys):=by
 unfold zD
 rw[AM]
 induction ys with
 | nil=>simp
 | cons y ys ih =>
  rw[rE,ih]
  show((y==x) || decide (x∈ys))=decide (x∈y::ys)
  by_cases h:y=x
  ·subst h;simp
  ·have h':(y==x)=false:=nI.mpr h
   rw[h',TJ]
   have:x∈y::ys ↔ x∈ys:=by simp[aO h]
   simp[this]
theorem jN (ys:List Str):(ys.map V.str).all lD=true:=by
 rw[pM]
 intro v hv
 obtain⟨y,_,rfl⟩:=bf.mp hv
 rfl
end L2
namespace L2
open PySem PySem.Spec PyProof.Rows PySem.W
def iG (H:Hp) (a:Addr):Hp:=fun b=>if b=a then none else H b
theorem kf {H:Hp}{a b:Addr} (n:b≠a):iG H a b=H b:=by unfold iG;rw[aq n]
theorem KO {H:Hp}{a b:Addr}{o:HO} (e:iG H a b=some o):b≠a/\H b=some o:=by
 unfold iG at e
 split at e
 ·cases e
 next n=>exact⟨n,e⟩
theorem KP {H:Hp}{a b:Addr} (e:H b=none):iG H a b=none:=by
 unfold iG;split
 ·rfl
 ·exact e
section
variable {X : Cx} {pins : List (Addr × Obj)} {σ : St} {H H1 : Hp} {s s1 : Shared} {a C : Addr} {dx : Option Addr}
theorem Inv.Mr (I:Inv X pins σ H s) (e:H a=some (bJ C dx a)) (hd:∀d,dx=some d -> ∃fs,H d=some (dv d fs)):∃ox od t,InstAt s.heap a ox C od/\ox={ cls:= .ref C,dict:=dx,data:= .fields #[.ref t,.none,.none,.none,.bool false,.none] }:=by
 obtain⟨t,at_⟩:=I.excAt e
 cases dx with
 | none=>exact⟨_,none,t,⟨at_,rfl,rfl,True.intro⟩,rfl⟩
 | some d =>
  obtain⟨fs,ed⟩:=hd d rfl
  obtain⟨_,mA,n,r,_⟩:=I.vt ed
  obtain⟨od,k6,_⟩:=rW n
  exact⟨_,some od,t,⟨at_,rfl,rfl,k6⟩,rfl⟩
theorem Inv.hidden (I:Inv X pins σ H s) (hx:X.ex = []) (hs:X.stack=X.env::X.outer) (hf:X.env.frame=some X.env.locals) (ha:H a=some (bJ C dx a)) (h0:X.iI a=none) {h':Heap}
  (k:(hideAll s.heap (a::cu X.stack)).StaysIn h') (up:s.heap.UpToSlots h'):Un X.fs [] X.iI (iG H a) X.cp.heap h'/\cq X.prog X.w (iG H a) h':=by
 have ub:Un X.fs [] X.iI H X.cp.heap s.heap:=by have:=I.base;rw[hx]at this;exact this
 have wg:∀b,b∈cu X.stack->b=X.env.locals\/b∈X.fs:=fun b hb=>by
  have:=I.vx b hb
  rcases bq.mp this with z | z
  ·exact .inl z
  ·exact .inr z
 have nA:∀ {b:Addr},H b=none->b≠a:=fun e z=>by subst z;rw[ha]at e;cases e
 have get:∀b o,s.heap.get? b=some o->b≠a->b ∉ cu X.stack->h'.get? b=some o:=fun b o e n m=>k b o (hideAll_get _ e fun z=>by
  rcases bq.mp z with z | z
  ·exact n z
  ·exact m z)
 have wj:∀b o,X.cp.heap.get? b=some o->b≠X.env.locals:=fun b o e z=>by
  have h1:=aU e
  have h2:=I.ok.above
  subst z
  exact absurd h1 (TK.mpr h2)
 have vP:∀b o,b∈X.fs->s.heap.get? b=some o -> ∃sl,h'.get? b=some { o with slots:=sl }:=fun b o m e=>by
  obtain⟨_,o',e',nf⟩:=(I.fg).mem m
  rw[e]at e'
  cases e'
  exact up b o e nf
 refine⟨⟨fun b o e n m _=>?_,fun b o e n m _=>?_,fun b o e n _=>KP (ub.free b o e n (by simp)),fun b o e _=>?_,fun b xs e=>?_,fun b o u e=>?_,fun b ps e=>?_⟩,fun b o e=>?_⟩
 ·have e1:=ub.keep b o e n m (by simp)
  refine get b o e1 (nA (ub.free b o e n (by simp))) fun z=>?_
  rcases wg b z with z | z
  ·exact wj b o e z
  ·exact m z
 ·obtain⟨sl,e1⟩:=ub.slot b o e n m (by simp)
  obtain⟨wL,e2⟩:=vP b _ m e1
  exact⟨wL,e2⟩
 ·obtain⟨o',e1⟩:=ub.there b o e (by simp)
  by_cases m:b∈X.fs
  ·obtain⟨sl,e2⟩:=vP b _ m e1
   exact⟨_,e2⟩
  ·refine⟨o',get b o' e1 (fun z=>?_) fun z=>?_⟩
   ·subst z
    have:=ub.free b o e h0 (by simp)
    rw[ha]at this;cases this
   ·rcases wg b z with z | z
    ·exact wj b o e z
    ·exact m z
 ·have e1:=ub.jv b xs e
  rw[kf (b7 e1 ha (by intro z;cases z))];exact e1
 ·have e1:=ub.iY b o u e
  rw[kf (b7 e1 ha (by intro z;cases z))];exact e1
 ·obtain⟨mo,e1⟩:=ub.jw b ps e
  exact⟨mo,by rw[kf (b7 e1 ha (by intro z;cases z))];exact e1⟩
 ·obtain⟨n,e1⟩:=KO e
  have qp:∀ {c:Addr}{u:HO},H c=some u->c ∉ cu X.stack:=fun q m=>by
   have:=I.yH _ m
   rw[q]at this;cases this
  refine(I.ar b o e1).f' (fun c u hc q=>?_) (fun c q=>?_) fun c xs q=>?_
  ·rcases hc with rfl | q1
   ·exact get _ u q n (qp e1)
   ·exact get c u q (b7 q1 ha (by intro z;cases z)) (qp q1)
  ·rw[kf (b7 q ha (by intro z;cases z))];exact q
  ·rw[kf (b7 q ha (by intro z;cases z))];exact q
end
def Cx.gR (X:Cx) (a:Addr):Cx:={ X with A:=X.A.mark (some (.ref a)),calm:=false,xe:=fun _ _=>False }
section
variable {X : Cx} {pins : List (Addr × Obj)} {σ : St} {H : Hp} {s : Shared} {a C : Addr}
theorem Inv.gR (I:Inv X pins σ H s) (a:Addr):Inv (X.gR a) pins σ H s:=
 ⟨⟨I.ok.mod,I.ok.kind,I.ok.glob,I.ok.blt,I.ok.above,I.ok.inj,I.ok.has,I.ok.m9,(fun z=>Bool.noConfusion (show false=true from z)),I.ok.frames,I.ok.kJ,I.ok.lO,I.ok.bs,I.ok.jB,I.ok.m4,I.ok.lI,I.ok.fg,I.ok.jW⟩,I.os,I.bare,I.base,I.loc,I.cell,I.free,I.gT,I.pin,I.ar,I.len⟩
theorem Inv.uncaught {Y:Cx} (ok:X.Ok) (I:Inv (X.gR a) pins σ H s):Inv X pins σ H s:=
 ⟨ok,I.os,I.bare,I.base,I.loc,I.cell,I.free,I.gT,I.pin,I.ar,I.len⟩
end
end L2
namespace L2
open PySem PySem.Spec PyProof.Rows PySem.W
section
variable {P : Program} {w : World} {A : Around} {R : Result -> Shared -> Prop}
theorem Wh {it l:Addr}{its:Array Value}{g:Heap} (tr:Nat->Bool) (hh:A.in1.handled=none) (bc:l≠it) (hl:g.IsList l its)
  (ht:∀i v,its[i]? = some v -> ∃a ws,v = .ref a/\a≠it/\IsTup g a ws/\ws.size<=sizeLine/\tr i = !ws.isEmpty):∀ (k i:Nat) (s:Shared),its.size - i=k->i<=its.size->(∀b o,b≠it->g.get? b=some o->s.heap.get? b=some o)->s.heap.IsListIter it l i ->
  (∀h' tk,(∀b o,b≠it->g.get? b=some o->h'.get? b=some o)->R (.ok (.ret (.bool (((List.range its.size).drop i).any tr)))) { s with heap:=h',toks:=tk }) ->
  codeAny (model P w) A (.builtin "any.loop" ⟨[.ref it],[]⟩) R s:=by
 intro k
 induction k with
 | zero =>
  intro i s hk hi kp hit hR
  obtain rfl:i=its.size:=by omega
  refine jh F.entry_any_loop (?_:wpAny _ _ _ _ _ _)
  rw[show A.under (.builtin "any.loop" ⟨[.ref it],[]⟩)=A.in1 from mh JW _]
  show wpAny _ _ (pyNext (.ref it) >>= _) _ _ s
  have w9:s.heap.IsList l its:=hl.at fun o e=>kp l o bc e
  refine af (wpAny_pyNext_list_end hh hit w9 (by simp) fun h' ex=>af (nK (aB ?_)))
  have:=hR h' s.toks fun b o n e=>ex b o n (kp b o n e)
  rw[TL (by simp)]at this
  exact this
 | succ k ih =>
  intro i s hk hi kp hit hR
  have aS:i < its.size:=by omega
  have hd:(List.range its.size).drop i=i::(List.range its.size).drop (i+1):=by rw[AN (by simpa using aS),List.getElem_range]
  refine jh F.entry_any_loop (?_:wpAny _ _ _ _ _ _)
  rw[show A.under (.builtin "any.loop" ⟨[.ref it],[]⟩)=A.in1 from mh JW _]
  show wpAny _ _ (pyNext (.ref it) >>= _) _ _ s
  have w9:s.heap.IsList l its:=hl.at fun o e=>kp l o bc e
  have hx:its[i]? = some its[i]:=by simp[aS]
  obtain⟨a,ws,ea,na,aam,hz,htr⟩:=ht i _ hx
  refine af (wpAny_pyNext_list_item hit w9 hx fun h' aan sb=>?_)
  have uo:∀b o,b≠it->g.get? b=some o->h'.get? b=some o:=fun b o n e=>sb.extBut b o n (kp b o n e)
  have Zb:IsTup h' a ws:=by
   obtain⟨o,ho,r⟩:=aam
   exact⟨o,uo a o na ho,r⟩
  rw[ea]
  refine af (dX (truthy_tuple (s:={ s with heap:=h' }) Zb (by rw[aI]at hz;omega) (af (wpAny_letGo ?_))))
  rw[<-htr]
  cases hb:tr i with
  | false =>
   refine aB ⟨rF JW _,ih (i+1) _ (by omega) aS uo aan fun h2 tk2 k2=>?_⟩
   have:=hR h2 tk2 k2
   rw[hd,rE,hb,TJ]at this
   exact this
  | true =>
   refine af (nK (aB ?_))
   have:=hR h' (s.toks+1+1) uo
   rw[hd,rE,hb,Bool.true_or]at this
   exact this
end
section
variable {X : Cx}
theorem VB (hc:X.calm=true):df X (.builtin "any") (fun xs H Q=>∃ (p:Addr) (ys:List V) (rs:List (List V)),xs = [.ref p]/\aj X.K H p ys/\Paired (fun y r=>∃a,y=V.ref a/\aJ X.K H a r) ys rs/\Q (.bl (rs.any fun r=>!r.isEmpty)) H):=by
 intro pins s σ H xs us Q I r h
 obtain⟨p,ys,rs,rfl,hq,pr,q⟩:=h
 obtain⟨u,rfl,rx⟩:=vals1 r
 cases rx
 obtain⟨its,rv,pl,hz⟩:=I.list hq
 have hlen:=rv.length
 have all:∀i v,its[i]? = some v -> ∃a ws,v = .ref a/\IsTup s.heap a ws/\ws.size<=sizeLine/\(rs.map fun r=>!r.isEmpty).getD i false = !ws.isEmpty:=by
  intro i v e
  clear q hq pl hz r
  induction rv generalizing rs i with
  | nil=>simp at e
  | cons r1 rt ih =>
   cases pr with
   | cons p1 pt =>
    cases i with
    | zero =>
     simp at e
     subst e
     obtain⟨a,rfl,ha⟩:=p1
     cases r1
     obtain⟨ws,r2,ht,uq⟩:=I.tuple ha
     have iO:=r2.length
     exact⟨a,_,rfl,ht,by rw[cL];omega,by rw[Bd r2];rfl⟩
    | succ i=>exact ih _ pt (by simpa using hlen) i (by simpa using e)
 have hsz:its.toArray.size=rs.length:=by rw[cL,<-hlen];exact ll pr
 have fin:(List.range its.toArray.size).any (fun i=>(rs.map fun r=>!r.isEmpty).getD i false)=rs.any fun r=>!r.isEmpty:=by
  rw[hsz]
  apply rD.mpr
  simp only[pN,l8]
  constructor
  ·rintro⟨i,hi,e⟩
   refine⟨rs[i],iT hi,?_⟩
   simpa [List.getD,hi] using e
  ·rintro⟨r,hr,e⟩
   obtain⟨i,hi,rfl⟩:=AO hr
   exact⟨i,hi,by simpa [List.getD,hi] using e⟩
 refine call_function_tree F.kind_any F.plain_any F.entry_any (F.args_any1 (.ref p)) (?_:wpAny _ _ _ _ _ _)
 unfold Builtin.«any»
 refine af (m:=oneArg "any" _) (aB (af (AD pl.isList ?_)))
 have new:∀b o,s.heap.get? b=some o->b≠s.heap.objs.size:=fun b o e=>bh (aU e)
 obtain⟨ol,xb,_⟩:=id pl.isList
 refine aB ⟨rF JW _,Wh (g:=s.heap) (fun i=>(rs.map fun r=>!r.isEmpty).getD i false) (I.ok.hd hc) (new p ol xb) pl.isList (fun i v e=>?_) _ 0 _ rfl (a4 _) (fun b o n e=>bj _ e) ⟨_,dj _ rfl,rfl,rfl⟩ fun h' tk kp=>?_⟩
 ·obtain⟨a,ws,ea,ht,uq,e2⟩:=all i v (by simpa using e)
  obtain⟨o,ho,_⟩:=id ht
  exact⟨a,ws,ea,new a o ho,ht,uq,e2⟩
 ·rw[List.drop_zero,fin]
  exact⟨.bl _,H,I.kept (t':=tk) fun b o e=>kp b o (new b o e) e,rfl,q⟩
end
section
variable {X : Cx}
theorem yv (hc:X.calm=true):df X (.builtin "all") (fun xs H Q=>∃ (p:Addr) (bs:List Bool),xs = [.ref p]/\aj X.K H p (bs.map V.bl)/\Q (.bl (bs.all id)) H):=by
 intro pins s σ H xs us Q I r h
 obtain⟨p,bs,rfl,hq,q⟩:=h
 obtain⟨u,rfl,rx⟩:=vals1 r
 cases rx
 obtain⟨its,rv,pl,hz⟩:=I.list hq
 have hlen:=rv.length
 have vals:its=bs.map Value.bool:=by
  clear q hq pl hz r hlen
  induction bs generalizing its with
  | nil=>cases rv;rfl
  | cons b bs ih =>
   cases rv with
   | cons r1 rt=>cases r1;rw[ih _ rt];rfl
 have new:∀b o,s.heap.get? b=some o->b≠s.heap.objs.size:=fun b o e=>bh (aU e)
 obtain⟨ol,xb,_⟩:=id pl.isList
 refine call_all_walk (AD pl.isList ?_)
 refine⟨s.heap.objs.size,_,_,_,_,_,fun i=>bs.getD i true,rfl,Walks.list (A:=X.A.in1) (I.ok.hd hc) s.heap.objs.size p (new p ol xb) its.toArray,⟨⟨_,dj _ rfl,rfl,rfl⟩,pl.isList.at fun o e=>bj _ e⟩,fun i v s2 Q2 E2 hv oV=>?_,fun h' tk kp=>?_⟩
 ·rw[vals]at hv
  have:bs[i]?.map Value.bool=some v:=by simpa using hv
  obtain⟨b,hb,rfl⟩:=iS.mp this
  refine lq ?_
  have e:bs.getD i true=b:=by rw[d4,hb];rfl
  exact e ▸ oV
 ·have fin:(List.range its.toArray.size).all (fun i=>bs.getD i true)=bs.all id:=by
   have hs:its.toArray.size=bs.length:=by rw[vals];simp
   rw[hs]
   apply rD.mpr
   simp only[pM,l8]
   constructor
   ·intro h b hb
    obtain⟨i,hi,rfl⟩:=AO hb
    simpa [List.getD,hi] using h i hi
   ·intro h i hi
    simpa [List.getD,hi] using h bs[i] (iT hi)
  rw[fin]
  exact⟨.bl _,H,I.kept (t':=tk) fun b o e=>kp b o (by simpa using new b o e) (bj _ e),rfl,q⟩
def Xn:V->List V->Hp->VK->Prop:=fun x vs H Q=>∃ (l:Addr) (ys:List Str) (y:Str) (j:Nat),x = .ref l/\vs = [.str y]/\H l=some (.lst (ys.map V.str))/\ys[j]? = some y/\(∀m,m < j->ys[m]? ≠ some y)/\Q (.int j) H
theorem Wj:FV X "list.index" Xn:=by
 intro pins s σ H x vs v us Q I rx rv h
 obtain⟨l,ys,y,j,rfl,rfl,hH,hj,eP,q⟩:=h
 cases rx
 obtain⟨u,rfl,t,rfl⟩:=rv.one
 obtain⟨z,its,n,r,hl,e⟩:=I.vX hH
 have b6:j < its.length:=by
  have:=(b9.mp hj).1
  rw[<-hl,aE];exact this
 have at_:∀m (hm:m < its.length),∃ (w:Str) (t':Tok),ys[m]? = some w/\its[m] = .str w t':=fun m hm=>by
  have gZ:m < ys.length:=by rw[<-hl,aE]at hm;exact hm
  obtain⟨u,hu,t',ht⟩:=r.get (i:=m) (x:= .str ys[m]) (by rw[f6,br gZ];rfl)
  rw[br hm]at hu
  exact⟨ys[m],t',br gZ,by rw[gF hu];exact ht⟩
 have fl:(ys.map V.str).all lD=true:=jN ys
 refine JL F.slot_list_index ⟨_,e,rfl⟩ F.entry_list_index (F.args_list_index_2 _ _) (SeqAt.list_indexAt l its.toArray n none #[] (.str y t) (gL (.str y)) j (by simpa using b6) ?_ ?_ ?_) ⟨e,?_,?_⟩
 ·rw[aI]at z;have:=hl;omega
 ·obtain⟨w,t',hw,ew⟩:=at_ j b6
  rw[hj]at hw;cases hw
  show gL (.str y) (its.toArray[j])=true
  rw[ak0,ew,yN (y:= .str y) ⟨t',rfl⟩ rfl]
  show decide _=true
  exact gO rfl
 ·intro m hm hmj
  have gZ:m < its.length:=by simpa using hm
  obtain⟨w,t',hw,ew⟩:=at_ m gZ
  show gL (.str y) (its.toArray[m])=false
  rw[ak0,ew,yN (y:= .str w) ⟨t',rfl⟩ rfl]
  have ne:=eP m hmj
  rw[hw]at ne
  show decide _=false
  exact je fun z=>ne (by rw[z])
 ·intro u hu
  exact sd (x:= .str y) ⟨t,rfl⟩ rfl r fl u (by simpa using hu)
 ·exact⟨.int j,H,I.tok _,⟨_,rfl⟩,q⟩
end
section
variable {X : Cx} {e : Expr} {te : TE} {pos p2 p3 p4 : Pos} {k : Nat}
def aao (K:Frag) (te:TE):TE:=fun σ H Q=>te σ H fun x H2=>∃ (l:Addr) (xs:List V),x = .ref l/\aj K H2 l xs /\ ∀p,H2 p=none->Q (.ref p) (upd H2 p (.lst xs.reverse))
theorem Yt (he:PE X e te):PE X (.Subscript e (.Slice none none (some (.UnaryOp .USub (.Constant (.int 1) k p3) p4)) p2) pos) (aao X.K te):=by
 intro pins s σ H Q I h
 refine Subscript_ (au (he pins s σ H _ I h) fun v s1 ⟨x,H1,I1,r1,l,xs,ex,hx,q⟩=>?_)
 subst ex
 cases r1
 refine wpAny_Slice ?_
 rw[Tr]
 refine aB (aB ?_)
 refine au (vo (Cy Ci aP) pins s1 σ H1 (fun o H'=>o=some (-1)/\H'=H1) I1 ⟨_,rfl,_,rfl,rfl,rfl⟩) fun vs s4 ⟨o,H4,I4,ps,eo,eH⟩=>?_
 subst eo eH
 have I5:Inv X pins σ H4 { s4 with heap:=s4.heap.push { cls:= .type "slice", data:= .fields #[.none,.none,vs] } }:=I4.kept (t':=s4.toks) fun b ob z=>bj _ z
 obtain⟨its,r,ht,hz⟩:=I5.list hx
 have hlen:=r.length
 refine tail_any (ops:=_) ht.isList.typeIs Tt.lookup ?_ (by with_unfolding_all rfl)
 refine wpAny_getItem_list_slice ht.isList (Heap.IsSliceOf.new ..) .none .none ps (by decide) ?_ (by rw[cL];omega)
 rw[krv_pick]
 refine⟨.ref _,_,I5.laid (t':=s4.toks) (o:= .lst xs.reverse) (fun b ob z=>bj _ z) (aN _) ?_,rfl,q _ (I5.ar.fresh (aN _))⟩
 exact⟨by rw[JX];exact hz,its.reverse,0,r.reverse,dj _ rfl⟩
end
end L2
namespace L2
open PySem PySem.Spec PyProof.Rows
section
variable {κ : Type} [DecidableEq κ]
def cb (kvs:List (κ×V)) (k:κ):Option V:=(kvs.find? fun kv=>decide (kv.1=k)).map (·.2)
def putK (kvs:List (κ×V)) (k:κ) (v:V):List (κ×V):=
 if (kvs.any fun kv=>decide (kv.1=k))=true then kvs.map (fun kv=>if kv.1=k then (kv.1,v) else kv) else kvs ++ [(k,v)]
theorem jO {p:κ×V}{r:List (κ×V)}{k:κ} (e:p.1=k):cb (p::r) k=some p.2:=by simp[cb,yc,e]
theorem jP {p:κ×V}{r:List (κ×V)}{k:κ} (e : ¬ p.1=k):cb (p::r) k=cb r k:=by simp[cb,yc,e]
theorem se (k:κ):∀kvs:List (κ×V),(kvs.any fun kv=>decide (kv.1=k))=(cb kvs k).isSome
 | []=>rfl
 | p::r=>by
  rw[rE]
  by_cases e:p.1=k
  ·simp only[jO e,gO e,Bool.true_or,Option.isSome_some]
  ·rw[jP e,je e,TJ];exact se k r
theorem LP (k j:κ) (y:V):∀kvs:List (κ×V),cb (kvs.map fun kv=>if kv.1=k then (kv.1,y) else kv) j=(cb kvs j).map fun x=>if j=k then y else x
 | []=>rfl
 | p::r=>by
  have ih:=LP k j y r
  rw[cD]
  by_cases h:p.1=k
  ·rw[aA h]
   by_cases e:p.1=j
   ·rw[jO (p:=(p.1,y)) e,jO e,AA,aA (e.symm.trans h)]
   ·rw[jP (p:=(p.1,y)) e,jP e,ih]
  ·rw[aq h]
   by_cases e:p.1=j
   ·rw[jO (p:=p) e,jO e,AA,aq (fun z=>h (e.trans z))]
   ·rw[jP (p:=p) e,jP e,ih]
theorem Lh (k j:κ) (y:V):∀kvs:List (κ×V),cb kvs k=none->cb (kvs ++ [(k,y)]) j=if j=k then some y else cb kvs j
 | [],_=>by
  by_cases e:k=j
  ·rw[aA e.symm];exact jO (p:=(k,y)) e
  ·rw[aq (fun z=>e z.symm)];exact jP (p:=(k,y)) e
 | p::r,hn=>by
  rw[List.cons_append]
  have hk : ¬ p.1=k:=fun z=>by rw[jO z]at hn;cases hn
  rw[jP hk]at hn
  have ih:=Lh k j y r hn
  by_cases e:p.1=j
  ·rw[jO e,jO e,aq (fun z=>hk (e.trans z))]
  ·rw[jP e,jP e,ih]
theorem vk (kvs:List (κ×V)) (k j:κ) (y:V):cb (putK kvs k y) j=if j=k then some y else cb kvs j:=by
 unfold putK
 by_cases a:(kvs.any fun kv=>decide (kv.1=k))=true
 ·rw[aA a,LP]
  rw[se]at a
  by_cases e:j=k
  ·obtain⟨x,hx⟩:=akF.mp a
   rw[aA e,e,hx,AA,aA rfl]
  ·rw[aq e]
   cases cb kvs j with
   | none=>rfl
   | some x=>rw[AA,aq e]
 ·rw[aq a]
  refine Lh k j y kvs ?_
  rw[se]at a
  cases q:cb kvs k with
  | none=>rfl
  | some x=>rw[q]at a;exact(a rfl).elim
theorem A7 (kvs:List (κ×V)) (k:κ) (v:V):(putK kvs k v).length<=kvs.length+1:=by
 unfold putK
 split
 ·rw[aE];omega
 ·rw[c9,dZ,yb];omega
theorem Wk {kvs:List (κ×V)}{k:κ} (v:V) (h:cb kvs k=none):putK kvs k v=kvs ++ [(k,v)]:=by
 unfold putK
 rw[se,h]
 exact aq (by decide)
theorem gV.vd {o:Option V}{u:Option Value} (r:gV o u):o.isSome=u.isSome:=by
 cases o with
 | none=>cases u with
  | none=>rfl
  | some _=>exact(show False from r).elim
 | some _=>cases u with
  | none=>exact(show False from r).elim
  | some _=>rfl
theorem KV.val {kvs:List (κ×V)}{vs:List (κ×Value)} (r:KV kvs vs) (k:κ):gV (cb kvs k) (valueAt vs k):=by
 unfold KV at r
 induction r with
 | nil=>exact True.intro
 | @cons p q ps qs h t ih =>
  obtain⟨h1,h2⟩:=h
  by_cases e:p.1=k
  ·have e':q.1=k:=h1.symm.trans e
   have b:valueAt (q::qs) k=some q.2:=by simp[valueAt,yc,e']
   rw[jO e,b];exact h2
  ·have e' : ¬ q.1=k:=fun z=>e (h1.trans z)
   have b:valueAt (q::qs) k=valueAt qs k:=by simp[valueAt,yc,e']
   rw[jP e,b];exact ih
theorem KV.any {kvs:List (κ×V)}{vs:List (κ×Value)} (r:KV kvs vs) (k:κ):(kvs.any fun kv=>decide (kv.1=k))=vs.any fun kv=>decide (kv.1=k):=by
 unfold KV at r
 induction r with
 | nil=>rfl
 | cons h t ih=>rw[rE,rE,ih,h.1]
theorem KV.Df {kvs:List (κ×V)}{vs:List (κ×Value)} (r:KV kvs vs) (k:κ) {y:V}{u:Value} (ry:RelV y u) :
  KV (kvs.map fun kv=>if kv.1=k then (kv.1,y) else kv) (vs.map fun kv=>if kv.1=k then (kv.1,u) else kv):=by
 unfold KV at r ⊢
 induction r with
 | nil=>exact .nil
 | @cons p q ps qs h t ih =>
  rw[cD,cD]
  refine .cons ?_ ih
  obtain⟨h1,h2⟩:=h
  by_cases e:p.1=k
  ·rw[aA e,aA (h1.symm.trans e)];exact⟨h1,ry⟩
  ·rw[aq e,aq (fun z=>e (h1.trans z))];exact⟨h1,h2⟩
theorem KV.put {kvs:List (κ×V)}{vs:List (κ×Value)} (r:KV kvs vs) (k:κ) {y:V}{u:Value} (ry:RelV y u):KV (putK kvs k y) (stored vs k u):=by
 unfold putK stored
 rw[r.any k]
 by_cases e:(vs.any fun kv=>decide (kv.1=k))=true
 ·rw[aA e,aA e];exact r.Df k ry
 ·rw[aq e,aq e];exact Paired.snoc r ⟨rfl,ry⟩
theorem KV.length {kvs:List (κ×V)}{vs:List (κ×Value)} (r:KV kvs vs):kvs.length=vs.length:=ll r
end
theorem sR {P:Program}{w:World}{k:Key}{u:Value} (r:RelV (kV k) u):(du P w).is k u=true:=by
 cases k with
 | inl i=>obtain⟨t,e⟩:=(show ∃t,u=Value.int i t from r);subst e;exact UD P w i t
 | inr x=>obtain⟨t,e⟩:=(show ∃t,u=Value.str x t from r);subst e;exact UE P w x t
theorem Li {P:Program}{w:World}:∀ {ks:List Key}{us:List Value},Vals (ks.map kV) us->ItemsAre (du P w) ks us
 | [],_,r=>by rw[Tu]at r;cases r;exact .nil
 | k::ks,_,r=>by
  rw[cD]at r
  cases r with
  | cons h t=>exact .cons (sR h) (Li t)
abbrev KT (H:Hp):List (List Key×V)->List (List Key×Addr×Value)->Prop:=Paired fun p q=>p.1=q.1/\H q.2.1=some (.tup (p.1.map kV))/\RelV p.2 q.2.2
theorem KT.val {H:Hp}{kvs:List (List Key×V)}{xs:List (List Key×Addr×Value)} (r:KT H kvs xs) (k:List Key):gV (cb kvs k) ((atKey xs k).map (·.2)):=by
 induction r with
 | nil=>exact True.intro
 | @cons p q ps qs h t ih =>
  obtain⟨h1,_,h2⟩:=h
  by_cases e:p.1=k
  ·have e':q.1=k:=h1.symm.trans e
   have b:atKey (q::qs) k=some q.2:=by simp[atKey,yc,e']
   rw[jO e,b];exact h2
  ·have e' : ¬ q.1=k:=fun z=>e (h1.trans z)
   have b:atKey (q::qs) k=atKey qs k:=by simp[atKey,yc,e']
   rw[jP e,b];exact ih
theorem KT.Df {H:Hp}{kvs:List (List Key×V)}{xs:List (List Key×Addr×Value)} (r:KT H kvs xs) (k:List Key) {y:V}{u:Value} (ry:RelV y u) :
  KT H (kvs.map fun kv=>if kv.1=k then (kv.1,y) else kv) (xs.map (putAt k u)):=by
 induction r with
 | nil=>exact .nil
 | @cons p q ps qs h t ih =>
  rw[cD,cD]
  refine .cons ?_ ih
  obtain⟨h1,h2,h3⟩:=h
  unfold putAt
  by_cases e:p.1=k
  ·rw[aA e,aA (h1.symm.trans e)];exact⟨h1,h2,ry⟩
  ·rw[aq e,aq (fun z=>e (h1.trans z))];exact⟨h1,h2,h3⟩
theorem KT.put {H:Hp}{kvs:List (List Key×V)}{xs:List (List Key×Addr×Value)} (r:KT H kvs xs) (k:List Key) {b:Addr}{y:V}{u:Value} (hb:H b=some (.tup (k.map kV))) (ry:RelV y u) :
  KT H (putK kvs k y) (storedH xs k b u):=by
 have e:(kvs.any fun kv=>decide (kv.1=k))=(atKey xs k).isSome:=by
  rw[se,(r.val k).vd,TM]
 unfold putK storedH
 rw[e]
 by_cases q:(atKey xs k).isSome=true
 ·rw[aA q,aA q];exact r.Df k ry
 ·rw[aq q,aq q];exact Paired.snoc r ⟨rfl,hb,ry⟩
theorem KT.keeps {H H':Hp}{kvs:List (List Key×V)}{xs:List (List Key×Addr×Value)} (r:KT H kvs xs) (ht:∀b ys,H b=some (.tup ys)->H' b=some (.tup ys)):KT H' kvs xs:=
 Paired.yZ r fun _ _ z=>⟨z.1,ht _ _ z.2.1,z.2.2⟩
section
variable {P : Program} {w : World} {H : Hp} {h : Heap} {a : Addr}
theorem Nq {u:HO} (ok:cq P w H h) (e:Rd H a u):bt P w H h a u:=e.ok ok
theorem sS {kvs:List (Key×V)} (ok:cq P w H h) (e:Rd H a (.dK kvs)):kvs.length<=sizeLine/\(a==sysModules)=false /\ ∃vs,KV kvs vs/\h.DictOf (du P w) a vs:=
 show bt P w H h a (.dK kvs) from Nq ok e
theorem CD {kvs:List (Key×V)} (ok:cq P w H h) (e:H a=some (.dK kvs)):kvs.length<=sizeLine/\(a==sysModules)=false /\ ∃vs,KV kvs vs/\h.DictOf (du P w) a vs:=sS ok (.inl e)
theorem vD {ks:List Key} (ok:cq P w H h) (e:H a=some (.tup (ks.map kV))):(tupleKind (du P w)).is h ks a:=by
 obtain⟨_,its,r,o,h1,h2,n,h3,_⟩:=(show bt P w H h a (.tup (ks.map kV)) from ok a _ e)
 exact⟨o,its.toArray,n,h1,h2,h3,by simpa using Li r⟩
theorem vQ {kvs:List (List Key×V)} (ok:cq P w H h) (e:Rd H a (.dT kvs)):kvs.length<=sizeLine/\(a==sysModules)=false /\
  ∃xs,KT H kvs xs/\h.DictOfH (tupleKind (du P w)) a xs:=by
 obtain⟨z,y,xs,r,o,es,ep,h1,h2,h3,h4,h5⟩:=(show bt P w H h a (.dT kvs) from Nq ok e)
 refine⟨z,y,xs,r,o,es,ep,h1,h2,h3,h4,fun x hx=>?_,h5⟩
 have all:∀ {l:List (List Key×V)}{m:List (List Key×Addr×Value)},KT H l m -> ∀x∈m,(tupleKind (du P w)).is h x.1 x.2.1:=by
  intro l m q
  induction q with
  | nil=>intro x hx;exact nomatch hx
  | @cons p q ps qs hq t ih =>
   intro x hx
   rcases bq.mp hx with e | hx
   ·subst e
    exact vD ok (by rw[<-hq.1];exact hq.2.1)
   ·exact ih x hx
 exact all r x hx
theorem Zc {kvs:List (List Key×V)} (ok:cq P w H h) (e:H a=some (.dT kvs)):kvs.length<=sizeLine/\(a==sysModules)=false /\
  ∃xs,KT H kvs xs/\h.DictOfH (tupleKind (du P w)) a xs:=vQ ok (.inl e)
end
def gJ (H:Hp) (a:Addr) (y:V) (r:Option V):Prop:=
 (∃kvs k,Rd H a (.dK kvs)/\y=kV k/\r=cb kvs k) \/ ∃kvs k b,Rd H a (.dT kvs)/\y = .ref b/\H b=some (.tup (k.map kV))/\r=cb kvs k
def qt (H:Hp) (a:Addr) (y v:V) (H':Hp):Prop:=
 (∃kvs k,H a=some (.dK kvs)/\y=kV k/\kvs.length < sizeLine/\H'=upd H a (.dK (putK kvs k v))) \/
 ∃kvs k b,H a=some (.dT kvs)/\y = .ref b/\H b=some (.tup (k.map kV))/\kvs.length < sizeLine/\H'=upd H a (.dT (putK kvs k v))
theorem gJ.k {H:Hp}{a:Addr}{kvs:List (Key×V)}{k:Key} (e:H a=some (.dK kvs)):gJ H a (kV k) (cb kvs k):= .inl ⟨kvs,k,.inl e,rfl,rfl⟩
theorem qt.k {H:Hp}{a:Addr}{kvs:List (Key×V)}{k:Key}{v:V} (e:H a=some (.dK kvs)) (hl:kvs.length < sizeLine):qt H a (kV k) v (upd H a (.dK (putK kvs k v))):= .inl ⟨kvs,k,e,rfl,hl,rfl⟩
section
variable {X : Cx} {pins : List (Addr × Obj)} {σ : St} {H : Hp} {s : Shared} {a : Addr} {y v : V} {u r : Value} {o : Option V} {A : Around} {E : Value -> Shared -> Prop}
theorem Inv.big (I:Inv X pins σ H s):sysModules < s.heap.objs.size:=by
 have h:mainGlobals < s.heap.objs.size:=(I.mod.glob.keeps I.bk).lt
 exact uW (by decide) h
theorem VC {Q:Value->Shared->Prop} (hu:A.units+1 < cLine) (I:Inv X pins σ H s) (g:gJ H a y (some v)) (ry:RelV y u) (h:∀w' s',Inv X pins σ H s'->RelV v w'->Q w' s') :
  wpAny (model X.prog X.w) A (getItem (.ref a) u) Q E s:=by
 rcases g with⟨kvs,k,e,ey,l⟩|⟨kvs,k,b,e,ey,eb,l⟩
 ·subst ey
  obtain⟨z,hd,vs,rel,dd⟩:=sS I.ar e
  obtain⟨w',hw,gx⟩:=gV.some_of (v:=v) (o:=valueAt vs k) (by rw[l];exact rel.val k)
  exact wpAny_getItem_of (sR ry) dd.mapOf hw (h w' _ (I.tok _) gx)
 ·subst ey
  cases (show u=Value.ref b from ry)
  obtain⟨z,hd,xs,rel,dd⟩:=vQ I.ar e
  obtain⟨w',hw,gx⟩:=gV.some_of (v:=v) (o:=(atKey xs k).map (·.2)) (by rw[l];exact rel.val k)
  obtain⟨p,hp,k7⟩:=iS.mp hw
  refine wpAny_getItem_heap (JY hu) (vD I.ar eb) dd hp ?_
  rw[k7]
  exact h w' _ (I.tok _) gx
theorem aap {Q:Value->Shared->Prop} (hu:A.units+1 < cLine) (I:Inv X pins σ H s) (g:gJ H a y o) (ry:RelV y u) (h:∀s',Inv X pins σ H s'->Q (.bool o.isSome) s') :
  wpAny (model X.prog X.w) A (compareOp .In u (.ref a)) Q E s:=by
 rcases g with⟨kvs,k,e,ey,l⟩|⟨kvs,k,b,e,ey,eb,l⟩
 ·subst ey
  obtain⟨z,hd,vs,rel,dd⟩:=sS I.ar e
  refine wpAny_in_of (sR ry) hd dd.mapOf ?_
  rw[<-(rel.val k).vd,<-l]
  exact h _ (I.tok _)
 ·subst ey
  cases (show u=Value.ref b from ry)
  obtain⟨z,hd,xs,rel,dd⟩:=vQ I.ar e
  refine wpAny_in_heap (JY hu) (vD I.ar eb) hd dd ?_
  have q:=(rel.val k).vd
  rw[TM]at q
  rw[<-q,<-l]
  exact h _ (I.tok _)
theorem Xo {Q:Value->Shared->Prop} (hu:A.units+1 < cLine) (I:Inv X pins σ H s) (g:gJ H a y o) (ry:RelV y u) (h:∀s',Inv X pins σ H s'->Q (.bool (!o.isSome)) s') :
  wpAny (model X.prog X.w) A (compareOp .NotIn u (.ref a)) Q E s:=by
 rcases g with⟨kvs,k,e,ey,l⟩|⟨kvs,k,b,e,ey,eb,l⟩
 ·subst ey
  obtain⟨z,hd,vs,rel,dd⟩:=sS I.ar e
  refine wpAny_notIn_of (sR ry) hd dd.mapOf ?_
  rw[<-(rel.val k).vd,<-l]
  exact h _ (I.tok _)
 ·subst ey
  cases (show u=Value.ref b from ry)
  obtain⟨z,hd,xs,rel,dd⟩:=vQ I.ar e
  refine wpAny_notIn_heap (JY hu) (vD I.ar eb) hd dd ?_
  have q:=(rel.val k).vd
  rw[TM]at q
  rw[<-q,<-l]
  exact h _ (I.tok _)
theorem Ms {h':Heap}{t':Nat}{ob:HO} (I:Inv X pins σ H s) (mu:wI (H a)) (hs:Heap.SameBut a s.heap h') (he:∃q,h'.get? a=some q) (new:bt X.prog X.w (upd H a ob) h' a ob) :
  Inv X pins σ (upd H a ob) { s with heap:=h',toks:=t' }:=
 I.write (x:=a) (e:=a) mu (.inl rfl) (fun b q hb z=>(hs.2 b hb).trans z) he new
theorem M0 {P:Program}{w:World}{H':Hp}{h':Heap}{kvs:List (Key×V)}{vs:List (Key×Value)} (z:kvs.length<=sizeLine) (hd:(a==sysModules)=false) (rel:KV kvs vs) (dd:h'.DictOf (du P w) a vs) :
  bt P w H' h' a (.dK kvs):=⟨z,hd,vs,rel,dd⟩
theorem VD {H':Hp}{Q:Unit->Shared->Prop} (hu:A.units+1 < cLine) (I:Inv X pins σ H s) (g:qt H a y v H') (ry:RelV y u) (rv:RelV v r) (h:∀s',Inv X pins σ H' s'->Q () s') :
  wpAny (model X.prog X.w) A (setItem (.ref a) u r) Q E s:=by
 rcases g with⟨kvs,k,e,ey,l,eH⟩|⟨kvs,k,b,e,ey,eb,l,eH⟩
 ·subst ey eH
  obtain⟨z,hd,vs,rel,dd⟩:=CD I.ar e
  have hz:vs.length<=sizeLine:=by rw[<-rel.length];exact z
  have hl:(putK kvs k v).length<=sizeLine:=by have:=A7 kvs k v;omega
  refine wpAny_setItem_pairs (hsz:=hz) (sR ry) dd fun h' nB hs=>h _ ?_
  have he:∃q,h'.get? a=some q:=let ⟨q,_,_,hq,_⟩:=nB;⟨q,hq⟩
  exact Ms I (by rw[e];exact True.intro) hs he (M0 hl hd (rel.put k rv) nB)
 ·subst ey eH
  cases (show u=Value.ref b from ry)
  obtain⟨z,hd,xs,rel,dd⟩:=Zc I.ar e
  have hz:xs.length<=sizeLine:=by rw[<-ll rel];exact z
  have hl:(putK kvs k v).length<=sizeLine:=by have:=A7 kvs k v;omega
  refine wpAny_setItem_heap (hsz:=hz) (JY hu) (vD I.ar eb) dd fun h' nB hs=>h _ ?_
  obtain⟨q,es,ep,hq,h2,h3,h4,_,h5⟩:=nB
  refine Ms I (by rw[e];exact True.intro) hs ⟨q,hq⟩ ⟨hl,hd,_,(rel.put k eb rv).keeps fun c ys ec=>?_,q,es,ep,hq,h2,h3,h4,h5⟩
  rw[ah (b7 ec e (fun z=>nomatch z))]
  exact ec
end
section
variable {X : Cx} {pins : List (Addr × Obj)} {σ : St} {H : Hp} {s : Shared} {a : Addr} {kvs : List (Key × V)} {k : Key} {u : Value} {A : Around} {E : Value -> Shared -> Prop}
theorem Zd {Q:Value->Shared->Prop} (I:Inv X pins σ H s) (e:Rd H a (.dK kvs)) (h:∀t s',Inv X pins σ H s'->Q (.int kvs.length t) s'):wpAny (model X.prog X.w) A (call (.builtin "len") [.ref a]) Q E s:=by
 obtain⟨z,hd,vs,rel,dd⟩:=sS I.ar e
 refine call_len_dict hd dd (by rw[<-rel.length];rw[aI]at z;omega) ?_
 rw[<-rel.length]
 exact h _ _ (I.tok _)
end
def N7 (i:Expr):Prop:= ∀ov iv,subscripted i false ov iv=operate [ov,iv] (getItem ov iv)
theorem Xp {prog:Program}{w:World}{A:Around}{E:Value->Shared->Prop}{s:Shared}{env:Env}{value slice:Expr}{pos:Pos}{T id:String}{Q:Value->Shared->Prop}
  (hl:typeLookup (.type T) "__getitem__" = pure (some (.builtin id))) (hs:N7 slice)
  (h:wpAny (model prog w) A (eval value env) (fun o aY=>wpAny (model prog w) A (eval slice env) (fun i kq=>kq.TypeIs o T/\wpAny (model prog w) A (getItem o i) Q E kq) E aY) E s) :
  wpAny (model prog w) A (eval (.Subscript value slice pos) env) Q E s:=by
 refine Subscript_ (md h (fun o aY aaq=>md aaq (fun i kq Dg=>?_) fun _ _ x=>x) fun _ _ x=>x)
 obtain⟨hT,Dg⟩:=Dg
 unfold subscriptTail
 refine af ?_
 rw[getitemInPython_of_ne hT.not_modules]
 refine af (wpAny_specialOf hT hl ?_)
 have fin:wpAny (model prog w) A (subscripted slice false o i) (fun r N8=>wpAny (model prog w) A (letTemporaryGo value o r >>= fun _=>pure r) Q E N8) E kq:=by
  rw[hs o i]
  exact wpAny_operating (md Dg (fun r N8 aar=>af (wpAny_letTemporaryGo (aB aar))) fun _ _ x=>x)
 first
  | exact aB (af fin)
  | exact af (aB (af fin))
  | exact af fin
theorem UJ {X:Cx}{pins:List (Addr×Obj)}{σ:St}{H:Hp}{s:Shared}{a:Addr}{y:V}{o:Option V} (I:Inv X pins σ H s) (g:gJ H a y o):s.TypeIs (.ref a) "dict" :=by
 rcases g with⟨kvs,k,e,_,_⟩|⟨kvs,k,b,e,_,_,_⟩
 ·obtain⟨_,_,vs,_,dd⟩:=sS I.ar e
  exact dd.typeIs
 ·obtain⟨_,_,xs,_,dd⟩:=vQ I.ar e
  exact dd.typeIs
def CF (td ty:TE):TE:=fun σ H Q=>td σ H fun x H1=>ty σ H1 fun y H2=>∃a v,x = .ref a/\gJ H2 a y (some v)/\Q v H2
def N9 (ty td:TE):TE:=fun σ H Q=>ty σ H fun y H1=>td σ H1 fun x H2=>∃a o,x = .ref a/\gJ H2 a y o/\Q (.bl o.isSome) H2
def Xq (ty td:TE):TE:=fun σ H Q=>ty σ H fun y H1=>td σ H1 fun x H2=>∃a o,x = .ref a/\gJ H2 a y o/\Q (.bl (!o.isSome)) H2
def Ze (td ty tv:TE):TS:=fun D σ H=>tv σ H fun v H1=>td σ H1 fun x H2=>ty σ H2 fun y H3=>∃a H4,x = .ref a/\qt H3 a y v H4/\D.nx σ H4
section
variable {X : Cx} {o i e value : Expr} {pos pos' alJ : Pos} {td ty tv : TE}
theorem nZ (hu:X.A.units+1 < cLine) (ho:PE X o td) (hi:PE X i ty) (hs:N7 i):PE X (.Subscript o i pos) (CF td ty):=by
 intro pins s σ H Q I h
 refine Xp PySem.F.slot_dict_getitem.lookup hs (au (ho pins s σ H _ I h) fun u s1 ⟨x,H1,I1,rx,q1⟩=>au (hi pins s1 σ H1 _ I1 q1) fun iv s2 ⟨y,H2,I2,ry,a,v,ex,g,q2⟩=>?_)
 subst ex
 obtain rfl:u=Value.ref a:=rx
 exact⟨UJ I2 g,VC hu I2 g ry fun w' s3 I3 gx=>⟨v,H2,I3,gx,q2⟩⟩
theorem M1 (hu:X.A.units+1 < cLine) (hi:PE X i ty) (ho:PE X o td):PC X .In i o (N9 ty td):=by
 intro pins s σ H Q I h
 refine au (hi pins s σ H _ I h) fun iv s1 ⟨y,H1,I1,ry,q1⟩=>au (ho pins s1 σ H1 _ I1 q1) fun u s2 ⟨x,H2,I2,rx,a,ov,ex,g,q2⟩=>?_
 subst ex
 obtain rfl:u=Value.ref a:=rx
 exact aap hu I2 g ry fun s3 I3=>⟨.bl ov.isSome,H2,I3,rfl,q2⟩
theorem VE (hu:X.A.units+1 < cLine) (hi:PE X i ty) (ho:PE X o td):PC X .NotIn i o (Xq ty td):=by
 intro pins s σ H Q I h
 refine au (hi pins s σ H _ I h) fun iv s1 ⟨y,H1,I1,ry,q1⟩=>au (ho pins s1 σ H1 _ I1 q1) fun u s2 ⟨x,H2,I2,rx,a,ov,ex,g,q2⟩=>?_
 subst ex
 obtain rfl:u=Value.ref a:=rx
 exact Xo hu I2 g ry fun s3 I3=>⟨.bl (!ov.isSome),H2,I3,rfl,q2⟩
theorem B9 (hu:X.A.units+1 < cLine) (ho:PE X o td) (hi:PE X i ty) (hv:PE X value tv) (hs:swapsWith value (some (.Subscript o i pos')) pos.line X.env=pure false) :
  PS X (.Assign [.Subscript o i pos'] value pos) (Ze td ty tv):=by
 intro pins s σ H D I h
 refine wpAny_Assign_Subscript (au (hv pins s σ H _ I h) fun r s1 ⟨v,H1,I1,rv,q1⟩=>au (ho pins s1 σ H1 _ I1 q1) fun u s2 ⟨x,H2,I2,rx,q2⟩=>au (hi pins s2 σ H2 _ I2 q2) fun iv s3 ⟨y,H3,I3,ry,a,H4,ex,g,q3⟩=>?_) hs
 subst ex
 obtain rfl:u=Value.ref a:=rx
 exact VD hu I3 g ry rv fun s4 I4=>⟨σ,H4,I4,q3⟩
end
theorem Wl {P:Program}{w:World}{H:Hp} (h:Heap) (hb:sysModules < h.objs.size):bt P w H (h.push { cls:= .type "dict", data:= .dict #[] }) h.objs.size (.dK []):=
 ⟨a4 _,nI.mpr (aO (bh hb)),[],.nil,Heap.DictOf.new h⟩
def Yu:TE:=fun _ H Q=>∀p,H p=none->Q (.ref p) (upd H p (.dK []))
section
variable {X : Cx} {pos : Pos}
theorem BO:PE X (.Dict [] [] pos) Yu:=fun pins s σ H Q I h =>
 wpAny_Dict_empty ⟨.ref s.heap.objs.size,_,I.laid (a:=s.heap.objs.size) (o:= .dK []) (t':=s.toks) (fun _ _ q=>bj _ q) (aN _) (Wl s.heap I.big),rfl,h _ (I.ar.fresh (aN _))⟩
end
end L2
namespace HT
open PySem PyProof.Rows
section
variable {prog : Program} {w : World} {A : Around} {E : Value -> Shared -> Prop} {s : Shared}
theorem Wm {t b:Addr}{ws:List Value}{Q:Value->Shared->Prop} (ht:IsTup s.heap t ([]:List Value).toArray) (hb:IsTup s.heap b ws.toArray) (h:Q (.ref b) s):wpAny (model prog w) A (binaryOp .Add (.ref t) (.ref b)) Q E s:=by
 obtain⟨⟨cls,dd,data,sl⟩,ho,hc,n,hd⟩:=id ht
 obtain⟨⟨NV,zB,data2,qL⟩,jD,gy,n2,hd2⟩:=id hb
 obtain rfl:cls = .type "tuple" :=hc
 obtain rfl:data = .seq #[] n:=hd
 obtain rfl:NV = .type "tuple" :=gy
 obtain rfl:data2 = .seq ws.toArray n2:=hd2
 exact concat_meets ⟨_,ho,rfl⟩ ⟨_,jD,rfl⟩ Tj Tn To Tp (Tq _ _) (tuple_addW0 t b #[] ws.toArray n n2 dd zB sl qL rfl) ⟨ho,jD,h⟩
end
end HT
namespace L2
open PySem PySem.Spec PyProof.Rows PySem.W
theorem Wn {H:Hp}{q:Addr}{o:HO} (hq:H q=none):ak H (upd H q o):=fun b u e=>by rw[ah (ao e hq)];exact e
section
variable {X : Cx}
def Zf:R2:=fun x y H Q=>∃a b xs ys,x = .ref a/\y = .ref b/\H a=some (.tup xs)/\H b=some (.tup ys)/\xs.length+ys.length<=sizeLine /\ ∀p H',ak H H'->H' p=some (.tup (xs++ys))->Q (.ref p) H'
theorem Mt:cA X (binaryOp .Add) Zf:=by
 intro pins s σ H x y v u Q I rx ry h
 obtain⟨a,b,xs,ys,rfl,rfl,ha,hb,hz,q⟩:=h
 cases xs with
 | nil =>
  cases rx
  cases ry
  obtain⟨its,r1,p1,_⟩:=I.tuple (aJ.of ha)
  obtain⟨tE,r2,p2,_⟩:=I.tuple (aJ.of hb)
  cases r1
  exact HT.Wm p1 p2 ⟨.ref b,H,I,rfl,q b H (ak.refl _) hb⟩
 | cons z xs=>exact Xd pins s σ H (.ref a) (.ref b) v u Q I rx ry ⟨a,b,_,ys,rfl,rfl,aJ.of ha,aJ.of hb,by simp,hz,fun e=>q a H (ak.refl _) (by rw[e,eV];exact ha),fun _ p hp=>q p _ (Wn hp) ag⟩
theorem Xr {P:Program}{w:World}{k:Key}{u:Value} (h:(du P w).is k u=true):RelV (kV k) u:=by
 cases k with
 | inl i=>exact Value.isInt_shape (show Value.isInt i u=true from h)
 | inr x=>exact SY (show Value.isStrOf x u=true from h)
theorem Mu:∀ {xs:List V}{us:List Value},xs.length=us.length->(∀ (i:Nat) x u,xs[i]? = some x->us[i]? = some u->RelV x u)->Vals xs us
 | [],[],_,_=>.nil
 | [],_::_,h,_=>by simp at h
 | _::_,[],h,_=>by simp at h
 | x::xs,u::us,h,f=>.cons (f 0 x u rfl rfl) (Mu (by simpa using h) fun i y v a b=>f (i+1) y v (by simpa using a) (by simpa using b))
theorem KQ (hc:X.calm=true):df X (.type "list") (fun xs H Q=>∃d kvs,xs = [.ref d]/\H d=some (.dK kvs) /\ ∀l,H l=none->Q (.ref l) (upd H l (.lst (kvs.map fun kv=>kV kv.1)))):=by
 intro pins s σ H xs us Q I r h
 obtain⟨d,kvs,rfl,hd,q⟩:=h
 obtain⟨u,rfl,rx⟩:=vals1 r
 cases rx
 obtain⟨hz,lo,vs,kv,dd⟩:=CD I.ar hd
 obtain⟨ep,da⟩:=dd.dictAt
 have hlen:kvs.length=vs.length:=kv.length
 refine kdl_call (kdl_dict (kvs:=vs) (ep:=ep) lo) (I.ok.hd hc) da (by rw[<-hlen];exact hz) fun h' tk acc c kp e it=>?_
 refine⟨.ref s.heap.objs.size,_,I.laid (t':=tk) kp (aN _) (show bt X.prog X.w _ h' _ (.lst (kvs.map fun kv=>kV kv.1)) from⟨by rw[aE];exact hz,acc.toList,c,?_,by rw[ak1];exact e⟩),rfl,q _ (I.ar.fresh (aN _))⟩
 refine Mu (by rw[aE,uR];exact hlen.trans it.1.symm) fun i x v hx hv=>?_
 obtain⟨k,y,hk,hi⟩:=it.2 i v (by rw[<-akP];exact hv)
 obtain⟨kv',jY,rfl⟩:=iS.mp (by rw[<-f6];exact hx)
 have e:kv'.1=k:=by
  clear it hx hv hlen da dd q hz hd
  induction kv generalizing i with
  | nil=>simp at jY
  | cons p _ ih =>
   cases i with
   | zero =>
    simp at jY hk
    subst jY
    rw[p.1,hk]
   | succ i=>exact ih i (by simpa using hk) (by simpa using jY)
 rw[e]
 exact Xr hi
end
end L2
namespace HT
open PySem PyProof.Rows
section
open PySem.SeqAt
open PySem.AutoSeq1 (wpAny_loadPart')
open PySem.MeetsSeq PySem.MeetsSeq2 PySem.MeetsSeq3
end
end HT
namespace HT
open PySem PyProof.Rows
end HT
namespace L2
open PySem PySem.Spec PyProof.Rows PySem.W HT
theorem jR {α β:Type}{F:α->β->Prop}:∀ {l:List α}{m:List β}{i:Nat}{x:α},Paired F l m->l[i]? = some x -> ∃y,m[i]? = some y/\F x y
 | _,_,i,x,.nil,e=>by simp at e
 | _,_,0,x,.cons p _,e=>by simp at e;subst e;exact⟨_,rfl,p⟩
 | _,_,i+1,x,.cons _ t,e=>by simpa using jR (i:=i) t (by simpa using e)
end L2
namespace HT
open PySem PyProof.Rows
end HT
namespace HT
open PySem PyProof.Rows
open PySem.AutoSeq1 (wpAny_loadPart')
end HT
namespace L2
open PySem PySem.Spec PyProof.Rows PySem.W HT
end L2
namespace HT
open PySem PyProof.Rows
end HT
namespace HT
open PySem PyProof.Rows PySem.W
end HT
namespace HT
open PySem PyProof.Rows PySem.W L2
theorem yw:plainId "dict.update.loop" = true:=by decide +kernel
theorem Lj:entryFor table "dict.update.loop" = some Builtin.«dict.update.loop» :=entryFor_of_fast (by kernel_rfl)
theorem stored_new {K:Type} [DecidableEq K] {kvs:List (K×Value)}{k:K}{v:Value} (h:k ∉ kvs.map (·.1)):stored kvs k v=kvs ++ [(k,v)]:=by
 unfold stored
 rw[aq]
 intro z
 obtain⟨p,hp,e⟩:=pN.mp z
 exact h (bf.mpr ⟨p,hp,by simpa using e⟩)
end HT
namespace HT
open PySem PyProof.Rows PySem.W L2
end HT
namespace HT
open PySem PyProof.Rows
section
open PySem.SeqAt
open PySem.AutoSeq1 (wpAny_loadPart')
open PySem.MeetsSeq PySem.MeetsSeq2 PySem.MeetsSeq3
end
end HT
namespace L2
open PySem PySem.Spec PyProof.Rows PySem.W HT
end L2
namespace L2
open PySem PySem.Spec PyProof.Rows PySem.W
def oB (o:Obj):Option Value:=match o.data with | .fields vs=>vs[2]? | _=>none
def Kp (o o':Obj):Prop:=o'.dict=o.dict/\oB o'=oB o
def KD {α:Type}:Sem α->Prop
 | .pure _=>True
 | .raise _=>True
 | .unsupported _=>True
 | .finish _=>True
 | .rule _ k=>KD (k ())
 | .at _ k=>KD (k ())
 | .load _ _ k=>∀o,KD (k o)
 | .update _ _ f k=>(∀o,Kp o (f o))/\KD (k ())
 | .alloc _ k=>∀a,KD (k a)
 | .loadIfAlive _ k=>∀o,KD (k o)
 | .point _ k=>KD (k ())
 | .register _ _=>False
 | .fresh k=>∀t,KD (k t)
 | .ask k=>∀x,KD (k x)
 | .choose _ _ k=>∀n,KD (k n)
 | .os _ _ k=>∀r,KD (k r)
 | .call _ _ _ _ _=>False
 | .handled _ k=>∀v,KD (k v)
 | .newGen _ k=>∀n,KD (k n)
 | .genState _ k=>∀x,KD (k x)
 | .resume _ _ _ _=>False
 | .yield _ _ _ _=>False
 | .stack k=>∀l,KD (k l)
 | .fork _ _=>False
 | .thread k=>∀n,KD (k n)
 | .await _ _ _ _ _=>False
def RD (h h':Heap):Prop:= ∀ (a:Addr) (o:Obj),h.objs[a]? = some o -> ∃o',h'.objs[a]? = some o'/\Kp o o'
theorem RD.refl (h:Heap):RD h h:=fun a o e=>⟨o,e,rfl,rfl⟩
theorem RD.trans {h1 h2 h3:Heap} (a:RD h1 h2) (b:RD h2 h3):RD h1 h3:=fun x o e=>by
 obtain⟨o1,e1,d1⟩:=a x o e
 obtain⟨o2,e2,d2⟩:=b x o1 e1
 exact⟨o2,e2,d2.1.trans d1.1,d2.2.trans d1.2⟩
theorem RD.push {h0 h:Heap} (r:RD h0 h) (o:Obj):RD h0 (h.push o):=r.trans fun x u e=>⟨u,by
 obtain⟨objs,l⟩:=h
 show(objs.push o)[x]? = some u
 have hx:x < objs.size:=(AL.mp e).1
 rw[Array.getElem?_push,aq (bh hx)];exact e,rfl,rfl⟩
theorem RD.update {h0 h:Heap} (r:RD h0 h) {a:Addr}{f:Obj->Obj} (hf:∀o,Kp o (f o)):RD h0 (h.update a f):=r.trans fun x u e=>by
 obtain⟨objs,l⟩:=h
 show ∃o',(objs.modify a f)[x]? = some o'/\_
 rw[Array.getElem?_modify]
 have e':objs[x]? = some u:=e
 by_cases c:a=x
 ·rw[aA c,e'];exact⟨f u,rfl,hf u⟩
 ·rw[aq c];exact⟨u,e',rfl,rfl⟩
theorem RD.dict {h h':Heap} (r:RD h h') {a:Addr}{o o':Obj} (e:h.get? a=some o) (e':h'.get? a=some o'):Kp o o':=by
 have raw:∀ {g:Heap}{u:Obj},g.get? a=some u->g.objs[a]? = some u:=fun {g u} q=>by
  unfold Heap.get? at q
  split at q
  ·cases q
  ·exact q
 obtain⟨o2,e2,d⟩:=r a o (raw e)
 rw[raw e']at e2
 cases e2
 exact d
theorem Zg {α:Type}{M:Model}{Γ:PySem.Ctx}{h0:Heap}:∀ {t:Sem α}{Q:α->Pos->Shared->Prop}{E:Value->Pos->Shared->Prop}{p:Pos}{s:Shared},KD t->RD h0 s.heap->Sem.wp M Γ t Q E p s ->
  Sem.wp M Γ t (fun v p s'=>Q v p s'/\RD h0 s'.heap) (fun v p s'=>E v p s'/\RD h0 s'.heap) p s:=by
 intro t
 induction t with
 | pure a=>intro Q E p s _ r h;exact⟨h,r⟩
 | raise e=>intro Q E p s _ r h;exact⟨h,r⟩
 | unsupported w=>intro Q E p s _ r h;exact h
 | finish e=>intro Q E p s _ r h;exact h
 | rule t k ih=>intro Q E p s kd r h;exact ih () kd r h
 | «at» q k ih=>intro Q E p s kd r h;exact ih () kd r h
 | load a q k ih=>intro Q E p s kd r h;obtain⟨o,e,h⟩:=h;exact⟨o,e,ih o (kd o) r h⟩
 | update a q f k ih=>intro Q E p s kd r h;exact⟨h.1,ih () kd.2 (r.update kd.1) h.2⟩
 | alloc o k ih=>intro Q E p s kd r h;exact ih _ (kd _) (r.push o) h
 | loadIfAlive a k ih=>intro Q E p s kd r h;exact ih _ (kd _) r h
 | point l k ih=>intro Q E p s kd r h;exact ih () kd r h
 | register a k ih=>intro Q E p s kd r h;exact h
 | fresh k ih=>intro Q E p s kd r h;exact ih _ (kd _) r h
 | ask k ih=>intro Q E p s kd r h;exact ih _ (kd _) r h
 | choose src n k ih=>intro Q E p s kd r h;exact⟨h.1,ih _ (kd _) r h.2⟩
 | os q l k ih=>intro Q E p s kd r h;exact ih _ (kd _) r h
 | call c hd g l k ih=>intro Q E p s kd r h;exact False.elim kd
 | handled own k ih=>intro Q E p s kd r h;exact ih _ (kd _) r h
 | newGen c k ih=>intro Q E p s kd r h;exact ih _ (kd _) r h
 | genState g k ih=>intro Q E p s kd r h;obtain⟨st,e,h⟩:=h;exact⟨st,e,ih _ (kd _) r h⟩
 | resume g rs l k ih=>intro Q E p s kd r h;exact False.elim kd
 | yield v g l k ih=>intro Q E p s kd r h;exact False.elim kd
 | stack k ih=>intro Q E p s kd r h;exact ih _ (kd _) r h
 | fork c k ih=>intro Q E p s kd r h;exact False.elim kd
 | thread k ih=>intro Q E p s kd r h;exact ih _ (kd _) r h
 | await a t b l k ih=>intro Q E p s kd r h;exact False.elim kd
theorem Yv {α:Type}{M:Model}{A:Around}{t:Sem α}{Q:α->Shared->Prop}{E:Value->Shared->Prop}{s:Shared} (k:KD t) (h:wpAny M A t Q E s) :
  wpAny M A t (fun v s'=>Q v s'/\RD s.heap s'.heap) (fun v s'=>E v s'/\RD s.heap s'.heap) s:=fun Γ p hi=>Zg k (RD.refl _) (h Γ p hi)
theorem KD.bind {α β:Type}{f:α->Sem β} (hf:∀x,KD (f x)):∀ {t:Sem α},KD t->KD (t.bind f):=by
 intro t
 induction t with
 | pure a=>intro _;exact hf a
 | raise e=>intro _;trivial
 | unsupported w=>intro _;trivial
 | finish e=>intro _;trivial
 | rule t k ih=>intro kd;exact ih () kd
 | «at» q k ih=>intro kd;exact ih () kd
 | load a q k ih=>intro kd o;exact ih o (kd o)
 | update a q g k ih=>intro kd;exact⟨kd.1,ih () kd.2⟩
 | alloc o k ih=>intro kd a;exact ih a (kd a)
 | loadIfAlive a k ih=>intro kd o;exact ih o (kd o)
 | point l k ih=>intro kd;exact ih () kd
 | register a k ih=>intro kd;exact False.elim kd
 | fresh k ih=>intro kd o;exact ih o (kd o)
 | ask k ih=>intro kd o;exact ih o (kd o)
 | choose src n k ih=>intro kd o;exact ih o (kd o)
 | os q l k ih=>intro kd o;exact ih o (kd o)
 | call c hd g l k ih=>intro kd;exact False.elim kd
 | handled own k ih=>intro kd o;exact ih o (kd o)
 | newGen c k ih=>intro kd o;exact ih o (kd o)
 | genState g k ih=>intro kd o;exact ih o (kd o)
 | resume g rs l k ih=>intro kd;exact False.elim kd
 | yield v g l k ih=>intro kd;exact False.elim kd
 | stack k ih=>intro kd o;exact ih o (kd o)
 | fork c k ih=>intro kd;exact False.elim kd
 | thread k ih=>intro kd o;exact ih o (kd o)
 | await a t b l k ih=>intro kd;exact False.elim kd
theorem KD.cI {α β:Type}{t:Sem α}{f:α->Sem β} (h:KD t) (hf:∀x,KD (f x)):KD (t >>= f):=KD.bind hf h
theorem KD.pure {α:Type}{x:α}:KD (Pure.pure x:Sem α):=True.intro
theorem KD.lT {α:Type}{w:String}:KD (PySem.unsupported w:Sem α):=True.intro
theorem BP:KD PySem.stack:=fun _=>True.intro
theorem B' {a:Addr}:KD (PySem.load a):=fun _=>True.intro
theorem Lk {a:Addr}{f:Obj->Obj} (h:∀o,Kp o (f o)):KD (PySem.update a f):=⟨h,True.intro⟩
theorem UK {v:Value}:KD (fieldsOf v):=by
 unfold fieldsOf
 split
 ·refine KD.cI B' fun o=>?_
  split
  ·exact KD.pure
  ·exact KD.lT
 ·exact KD.lT
theorem yD {v:Value}{i:Nat}:KD (field v i):=by
 unfold field
 refine KD.cI UK fun o=>?_
 split
 ·exact KD.pure
 ·exact KD.lT
theorem Uo {i:Nat}{x:Value} (hi:i≠2):∀o:Obj,Kp o (Obj.mapFields (·.setIfInBounds i x) o):=fun⟨c,d,dt,s⟩=>by
 cases dt <;> first | exact⟨rfl,rfl⟩|exact⟨rfl,Array.getElem?_setIfInBounds_ne hi⟩
theorem u7 {v x:Value}{i:Nat} (hi:i≠2:=by decide):KD (setField v i x):=by
 unfold setField
 split
 ·unfold updateField
  refine KD.cI B' fun o=>?_
  split
  ·split
   ·exact Lk (Uo hi)
   ·exact KD.lT
  ·exact KD.lT
 ·exact KD.lT
theorem A6 {ty:String}{vs:List Value}:KD (newFields ty vs):=by
 unfold newFields newObj
 dsimp only
 split
 ·exact KD.lT
 ·show KD (newObjAsIs _ _ _)
  unfold newObjAsIs
  exact KD.cI (fun _=>True.intro) fun _=>KD.pure
theorem UL {env:Env}{b:Bool}{l:List Env}:KD (keptBack env b l):=by
 unfold keptBack
 split
 ·split
  ·exact KD.pure
  ·unfold underTheClaimsCaller
   exact KD.cI (KD.cI BP fun _=>KD.pure) fun _=>by split <;> exact KD.pure
 ·exact KD.pure
theorem VF {env:Env}{l:List Env}:KD (behindIsImport env l):=by
 unfold behindIsImport
 split
 ·exact KD.pure
 ·split
  ·exact KD.pure
  ·exact KD.cI yD fun _=>KD.pure
theorem LQ:∀l:List Env,KD (readyFrames l)
 | []=>by unfold readyFrames;exact KD.pure
 | env::outer=>by
  unfold readyFrames
  split
  ·refine KD.cI B' fun o=>?_
   split
   ·exact KD.pure
   ·exact KD.cI VF fun _=>KD.cI UL fun _=>KD.cI (Lk fun _=>⟨rfl,rfl⟩) fun _=>LQ outer
  ·exact KD.lT
theorem Bf {env:Env}:KD (PySem.frameOf env):=by
 unfold PySem.frameOf
 refine KD.cI ?_ fun l=>KD.cI ?_ fun r=>?_
 ·unfold frameEnvs
  exact KD.cI BP fun _=>KD.pure
 ·unfold frameObject
  split
  ·exact KD.pure
  ·exact KD.cI (LQ _) fun _=>KD.pure
 ·split
  ·exact KD.pure
  ·exact KD.lT
theorem BQ {f:Addr}{b:Bool}:KD (entryPlaceOf f b):=by
 unfold entryPlaceOf
 refine KD.cI BP fun l=>?_
 split
 ·exact KD.pure
 ·exact KD.pure
theorem yK {e:Value}{env:Env}:KD (noteFrame e env):=by
 unfold noteFrame
 split
 ·refine KD.cI yD fun hd=>?_
  have last:∀f b,KD (setField e 1 =<< (do EntryCells.newEntry hd (<- PySem.frameOf env) .none (rawInt f) .none (<- entryPlaceOf f b))):=fun f b=>KD.cI (KD.cI Bf fun _=>KD.cI BQ fun _=>A6) fun _=>u7
  split
  ·refine KD.cI yD fun x=>?_
   split
   ·exact KD.pure
   ·exact KD.cI u7 fun _=>KD.cI Bf fun _=>KD.cI BQ fun _=>KD.cI A6 fun _=>u7
  ·exact KD.cI Bf fun _=>KD.cI BQ fun _=>KD.cI A6 fun _=>u7
 ·exact KD.lT
theorem pR {e:Value}{f:Option Addr}:KD (setFlight e f):=by
 unfold setFlight
 refine KD.cI yD fun tb=>?_
 split
 ·exact u7
 ·exact KD.pure
theorem Bg {env:Env}{e:Value}:KD (leaving env e):=by
 unfold leaving
 exact KD.cI yK fun _=>pR
end L2
namespace L2
open PySem PySem.Spec PyProof.Rows PySem.W
def dJ (n:Option Value) (C:Addr) (dx:Option Addr) (a:Addr):HO:= .ext fun h=>∃ox vs,h.get? a=some ox/\ox.cls = .ref C/\ox.dict=dx/\ox.data = .fields vs/\(∀y,n=some y->vs[2]? = some y)
section
variable {P : Program} {w : World} {H : Hp} {h : Heap} {a C : Addr} {dx : Option Addr} {n : Option Value}
theorem Xs {ox:Obj}{vs:Array Value} (e:h.get? a=some ox) (c:ox.cls = .ref C) (d:ox.dict=dx) (f:ox.data = .fields vs) (z:∀y,n=some y->vs[2]? = some y):bt P w H h a (dJ n C dx a):=
 ⟨⟨ox,vs,e,c,d,f,z⟩,⟨_,e⟩,fun _ _ ⟨ox,vs,q,r⟩ k=>⟨ox,vs,k _ q,r⟩⟩
theorem Mv {B:Heap}{l:List Env}{a0:Value} (f:Heap.FlyingW B l a (.ref C) a0 h) (r:∃ox,h.get? a=some ox/\ox.dict=dx/\(∀y,n=some y->oB ox=some y)):bt P w H h a (dJ n C dx a):=by
 obtain⟨_,_,_,oe,vs,_,_,_,he,hc,hd,_⟩:=f
 obtain⟨ox,e,d,z⟩:=r
 rw[he]at e;cases e
 exact Xs he hc.1 d hd fun y=>by have:=z y;unfold oB at this;rw[hd]at this;exact this
theorem Mw {O:HO} (ok:cq P w H h) (n:H a=none) (o:bt P w (upd H a O) h a O):cq P w (upd H a O) h:=fun b u e=>by
 by_cases c:b=a
 ·subst c
  rw[ag]at e;cases e
  exact o
 ·rw[ah c]at e
  exact(ok b u e).f' (fun _ _ _ q=>q) (fun x q=>by rw[ah (ao q n)];exact q) fun x xs q=>by rw[ah (ao q n)];exact q
theorem Un.add {fs ex:List Addr}{H':Hp}{h':Heap}{O:HO} (u:Un fs ex H H' h h') (n':H' a=none) (n:h.get? a=none):Un fs ex H (upd H' a O) h h':=
 ⟨u.keep,u.slot,fun b o e q x=>by
  have:b≠a:=by rintro rfl;rw[n]at e;cases e
  rw[ah this];exact u.free b o e q x,u.there,fun b xs e=>by
  have q:=u.jv b xs e
  rw[ah (ao q n')];exact q,fun b o v e=>by
  have q:=u.iY b o v e
  rw[ah (ao q n')];exact q,fun b ps e=>by
  obtain⟨m,q⟩:=u.jw b ps e
  exact⟨m,by rw[ah (ao q n')];exact q⟩⟩
theorem LR {O:HO}:upd (iG H a) a O=upd H a O:=by
 funext b;unfold upd
 by_cases c:b=a
 ·rw[aA c,aA c]
 ·rw[aq c,aq c,kf c]
end
section
variable {X : Cx} {pins : List (Addr × Obj)} {σ : St} {H : Hp} {s : Shared} {A : Around} {E : Value -> Shared -> Prop} {a d C : Addr} {dx : Option Addr} {fs : List (Str × V)} {f : Str} {n : Option Value}
theorem VG {b:Bool}{v:V}{Q:Value->Shared->Prop} (I:Inv X pins σ H s) (e:H a=some (dJ n C (some d) a)) (ed:H d=some (dv d fs)) (c:dh X.K C) (no:findIn X.K (.ref C) f=some none) (l:fs.lookup f=some v)
  (h:∀u s',Inv X pins σ H s'->RelV v u->Q u s'):wpAny (model X.prog X.w) A (getAttr (.ref a) f b) Q E s:=by
 obtain⟨ox,vs,at_,hc,hd,hf,_⟩:=(I.ar a _ e).1
 obtain⟨_,mA,n',r,_⟩:=I.vt ed
 obtain⟨od,k6,look⟩:=rW n'
 have rf:=r f
 rw[l]at rf
 obtain⟨u,hu,ru⟩:=gV.some_of rf
 have J:InstAt s.heap a ox C (some od):=⟨at_,hc,by unfold notCls;rw[hf],by rw[hd];exact k6⟩
 exact Xh I.a7 J c (findObj_own c.hd no rfl (by rw[look,hu])) (Vt ru) (h u _ (I.tok _) ru)
end
section
variable {X : Cx} {e : Expr} {f : Str} {pos : Pos} {ta : TE}
def Zh (X:Cx) (ta:TE) (f:Str):TE:=fun σ H Q=>ta σ H fun x H1=>∃a n C d fs v,x = .ref a/\H1 a=some (dJ n C (some d) a)/\H1 d=some (dv d fs)/\dh X.K C/\findIn X.K (.ref C) f=some none/\fs.lookup f=some v/\Q v H1
theorem Xt (he:PE X e ta) (hb:attributeBase e f X.env (eval e X.env)=eval e X.env:=by rfl):PE X (.Attribute e f pos) (Zh X ta f):=by
 intro pins s σ H Q I h
 refine Xa hb (au (he pins s σ H _ I h) fun u s1 ⟨x,H1,I1,rx,a,_,C,d,fs,v,ex,ea,ed,c,n,l,q⟩=>?_)
 subst ex
 obtain rfl:u=Value.ref a:=rx
 exact VG I1 ea ed c n l fun u' s2 I2 ru=>⟨v,H1,I2,ru,q⟩
end
section
variable {X : Cx} {pins : List (Addr × Obj)} {σ : St} {H H1 : Hp} {s s1 : Shared} {a C : Addr} {dx : Option Addr}
theorem UM {e:Expr}{pos:Pos}{te:TE}{D:Ends}{R:Addr->Addr->Option Addr->Hp->Prop} (I:Inv X pins σ H s) (hc:X.calm=true) (he:PE X e te)
  (h:te σ H fun v H1=>∃a C dx i,v = .ref a/\H1 a=some (bJ C dx a)/\(∀d,dx=some d -> ∃fs,H1 d=some (dv d fs))/\dh X.K C/\dI X.K C i=true/\R a C dx H1)
  (fin:∀a C dx H1 s1,Inv X pins σ H1 s1->H1 a=some (bJ C dx a)->R a C dx H1->X.xe (.ref a) s1) :
  wpAny (model X.prog X.w) X.A (exec (.Raise (some e) none pos) X.env) (SP X pins D) X.xe s:=by
 rw[arm_exec_Raise]
 refine af (nJ (show wpAny _ _ (raiseStmt X.env (some (do let v <- eval e X.env;standAt pos;pure v)) none) _ _ _ from ?_))
 unfold raiseStmt
 refine af (af (au (he pins s σ H _ I h) fun u s1 ⟨v,H1,J,r,a,C,dx,i,ev,ea,hd,c,q,hR⟩=>af (nJ (aB ?_))))
 subst ev
 obtain rfl:u = .ref a:=r
 obtain⟨ox,od,t,inst,rfl⟩:=J.Mr ea hd
 have yV:Looks (model X.prog X.w) s1.heap (isType (.ref a)) false:=fun A' Q' E' s' k z=>by
  simp only[isType,loadHead]
  exact af (ya (k _ _ inst.at_) (aB z))
 have Gi:Looks (model X.prog X.w) s1.heap (isInstance (.ref a) (.type "BaseException")) true:=inst.type.andThen (AJ J.a7 c.be)
 obtain⟨bm,N,nm,qn,bs,y6,sn,sub,ab,col,dd,k0,k1,k2,k3,k5,mN,hC,_⟩:=(pU J.a7 q).ex
 have Gj:s1.TypeIs (.ref C) "type" :=⟨_,hC,rfl⟩
 refine af (aB (af (dX ?_)))
 unfold excFromValue isExcClass
 refine af (af (yV.here (aB ?_)))
 refine af (Gi.here (aB ?_))
 refine af (yV.here ?_)
 unfold raisedInstance
 refine af (af (inst.type.here (af (x8 Gj ?_))))
 rw[aA (show(Value.type "type" == Value.type "type")=true from by decide)]
 refine aB ?_
 unfold setFlight raiseNew
 refine af (af (iA inst.at_ rfl (x:= .none) rfl ?_))
 rw[aq (show ¬ ((Value.none != Value.none)=true) from by decide)]
 refine aB (af (wpAny_handled_none (J.ok.hd hc) ?_))
 first
  | exact yd (fin a C dx H1 s1 J ea hR)
  | exact af (aB (yd (fin a C dx H1 s1 J ea hR)))
end
def c8 (P:Program) (w:World):jX:=fun outer H s E e s'=>∃ (a:Addr) (n:Option Value) (C:Addr) (a0:Value) (dx:Option Addr) (H':Hp) (B:Heap),e = .ref a/\s'.os=s.os/\AllBare s'.gens/\Heap.FlyingW B outer a (.ref C) a0 s'.heap /\
 (∃ox,s'.heap.get? a=some ox/\ox.dict=dx/\(∀y,n=some y->oB ox=some y))/\(∀h',B.StaysIn h'->s'.heap.UpToSlots h'->Un (cu outer) [] H H' s.heap h'/\cq P w H' h')/\H' a=none/\s.heap.get? a=none/\E (.ref C) (some a) (upd H' a (dJ n C dx a))
theorem jS {α:Type}{M:Model}{A:Around}{t:Sem α}{Q Q':α->Shared->Prop}{E:Value->Shared->Prop}{s:Shared} (k:KD t) (h:wpAny M A t Q E s) (q:∀v s',Q v s'->RD s.heap s'.heap->Q' v s'):wpAny M A t Q' E s:=
 md (Yv k h) (fun v s' z=>q v s' z.1 z.2) fun _ _ z=>z.1
section
variable {P : Program} {w : World} {K : Frag} {mg : Str -> Option Value} {base : Heap} {N : List Str} {qual : Str} {scope : Scope} {f : Addr} {cd : Value} {A : Around} {outer : List Env} {s : Shared} {H : Hp} {E : XK}
def Xu (K:Frag) (H0:Hp) (E:XK) (te:TE):TS:=fun _ σ H=>te σ H fun v H1=>∃a C dx i,v = .ref a/\H1 a=some (bJ C dx a)/\(∀d,dx=some d -> ∃fs,H1 d=some (dv d fs))/\dh K C/\dI K C i=true/\H0 a=none/\E (.ref C) (some a) (upd H1 a (dJ (some .none) C dx a))
theorem Ll {e:Expr}{pos:Pos}{te:TE} (he:PE (i3 (c8 P w) P w K mg base N qual scope f cd A outer s H E) e te) :
  PS (i3 (c8 P w) P w K mg base N qual scope f cd A outer s H E) (.Raise (some e) none pos) (Xu K H E te):=by
 intro pins s1 σ H1 D I h
 refine UM (R:=fun a C dx H2=>H a=none/\E (.ref C) (some a) (upd H2 a (dJ (some .none) C dx a))) I rfl he h fun a C dx H2 s2 J ea ⟨h0,hE⟩=>?_
 have fr:s2.heap.FunFrames base (envOfC qual scope s.heap.objs.size f cd::outer):=J.stack
 have all:∀env∈(envOfC qual scope s.heap.objs.size f cd::outer),∀b,env.frame=some b->b∈a::cu (envOfC qual scope s.heap.objs.size f cd::outer):=fun env m b hb=>bU _ (pG.mpr ⟨env,m,hb⟩)
 obtain⟨t,at_⟩:=J.excAt ea
 have new:s.heap.get? a=none:=by
  have ub:Un (cu outer) [] H H2 s.heap s2.heap:=J.base
  cases q:s.heap.get? a with
  | none=>rfl
  | some o =>
   have:=ub.free a o q h0 (by simp)
   rw[ea]at this;cases this
 show wpAny (model P w) _ (leaving _ (.ref a)) _ _ _
 refine jS Bg (wpAny_leaving_firstW (Q:=fun _ s'=>∃h',s'={ s2 with heap:=h' }/\Heap.LeftW (hideAll s2.heap (a::cu (envOfC qual scope s.heap.objs.size f cd::outer))) (envOfC qual scope s.heap.objs.size f cd::outer) a (.ref C) (.ref t) s2.heap h') (base:=hideAll s2.heap (a::cu (envOfC qual scope s.heap.objs.size f cd::outer))) (L:=s.heap.objs.size) (a0:= .ref t) J.ok.frames (funFrames_hide fr all) rfl at_ (fun b o q=>of_hideAll _ q) (AQ _ ba) rfl rfl rfl fun h' hL=>⟨h',rfl,hL⟩) fun _ s' ⟨h',es,hL⟩ rd=>?_
 subst es
 obtain⟨k1,⟨_,_,k2⟩,k3,k4⟩:=hL
 have fl:Heap.FlyingW (hideAll s2.heap (a::cu (envOfC qual scope s.heap.objs.size f cd::outer))) outer a (.ref C) (.ref t) h':=⟨k1,AQ _ ba,k2,k3⟩
 obtain⟨ox,jZ,_⟩:=fl.there
 refine⟨a,some .none,C,.ref t,dx,iG H2 a,hideAll s2.heap (a::cu (envOfC qual scope s.heap.objs.size f cd::outer)),rfl,J.os,J.bare,fl,⟨ox,jZ,(rd.dict at_ jZ).1,fun y ey=>by cases ey;exact(rd.dict at_ jZ).2⟩,fun ir kb up=>?_,by unfold iG;rw[aA rfl],new,by rw[LR];exact hE⟩
 exact J.hidden rfl rfl rfl ea h0 kb (ye k4 up)
end
section
variable {P : Program} {w : World} {K : Frag} {mg : Str -> Option Value} {base : Heap} {N : List Str} {qual : Str} {f : Addr}
theorem aZ.ur {x:Str}{st:Stmt}{fd:FuncData}{ps:List Str}{k:Nat}{sp:Sp} (F:aZ K x qual st f fd) (S:bZ N ps (ay st)) (len:∀vs H Q E,sp vs H Q E->vs.length=ps.length)
  (mU:∀ (cdv:Value) (A:Around) (outer:List Env) (s:Shared) (H:Hp) (vs:List V) (Q:VK) (E:XK),aT k (A.deeper (envOfC qual (ay st) s.heap.objs.size f cdv))->sp vs H Q E ->
   ∃t,gg (i3 (c8 P w) P w K mg base N qual (ay st) f cdv A outer s H E) (aQ st) t/\t { nx:=fun _ H'=>Q .aD H',rt:=Q } (start N vs) H):aG P w K mg base (c8 P w) (k+1) f fd ps sp:=by
 obtain⟨oc,od,kV,doc,pm,an,cdv,ct,lR,rfl,lk,fq⟩:=F.ex
 exact Nn lk fq S len fun A outer s H vs Q E hr jC=>mU cdv A outer s H vs Q E hr jC
end
section
variable {s : Shared} {a C B : Addr}
theorem Km {A:Around}{E:Value->Shared->Prop}{Q:Bool->Shared->Prop}{P:Program}{w:World}{K:Frag}{ox:Obj}{i:Option Value}{r:Bool} (X:K.In s.heap) (q:dI K B i=true) (me:mroIn K C (.ref B)=some r) (at_:s.heap.get? a=some ox) (cl:ox.cls = .ref C) (h:Q r s) :
  wpAny (model P w) A (excMatches (.ref a) (.ref B)) Q E s:=by
 obtain⟨bm,N,nm,qn,bs,y6,sn,sub,ab,col,dd,k0,k1,k2,k3,k5,mN,hC,_,_,T⟩:=(pU X q).ex
 have L:Looks (model P w) s.heap (isSubtype (.ref C) (.ref B)) r:=AJ X me
 obtain⟨hh,g,d,tk,os⟩:=s
 have hT:bm.contains (.type "BaseException")=true:=T.hasType (by decide)
 have hcB:(Value.ref B::bm).contains (.type "BaseException")=true:=by rw[List.contains_cons,hT,Bool.or_true]
 have f:=tc_notTuple
 unfold excMatches
 repeat (first | (with_reducible refine AH at_ ?_;rw[cl])|with_reducible refine AH hC ?_ | (with_reducible refine wpAny_isSubtype_exc hC ?_;rw[hcB])|(with_reducible refine L.here ?_)|wp_step)
 cases r <;> (wp_walk;exact h)
end
def Cx.kj (X:Cx) (pins:List (Addr×Obj)) (E:St->XK):Cx:={ X with pn:=X.pn++pins,xe:=fun e s'=>∃aH H s1,Inv X pins aH H s1/\c8 X.prog X.w X.stack H s1 (E aH) e s' }
section
variable {X : Cx} {pins vJ : List (Addr × Obj)} {σ : St} {H : Hp} {s : Shared} {E : St -> XK} {D : Ends}
theorem Inv.kj (I:Inv X pins σ H s):Inv (X.kj pins E) [] σ H s:=
 ⟨⟨I.ok.mod,I.ok.kind,I.ok.glob,I.ok.blt,I.ok.above,I.ok.inj,I.ok.has,I.ok.m9,I.ok.hd,I.ok.frames,I.ok.kJ,I.ok.lO,I.ok.bs,I.ok.jB,I.ok.m4,I.ok.lI,I.ok.fg,I.ok.jW⟩,I.os,I.bare,I.base,I.loc,I.cell,I.free,I.gT,(fun p hp=>I.pin p (by rw[eV]at hp;exact hp)),I.ar,I.len⟩
theorem Inv.oC (ok:X.Ok) (I:Inv (X.kj pins E) vJ σ H s):Inv X pins σ H s:=
 ⟨ok,I.os,I.bare,I.base,I.loc,I.cell,I.free,I.gT,(fun p hp=>I.pin p (jf _ hp)),I.ar,I.len⟩
theorem Cx.Ok.Zi (ok:(X.kj pins E).Ok):X.Ok:=⟨ok.mod,ok.kind,ok.glob,ok.blt,ok.above,ok.inj,ok.has,ok.m9,ok.hd,ok.frames,ok.kJ,ok.lO,ok.bs,ok.jB,ok.m4,ok.lI,ok.fg,ok.jW⟩
theorem SP.oC {f:Flow} (ok:X.Ok) (h:SP (X.kj pins E) vJ D f s):SP X pins D f s:=by
 cases f with
 | next=>obtain⟨aH,H',I,q⟩:=h;exact⟨aH,H',I.oC ok,q⟩
 | brk=>obtain⟨aH,H',I,q⟩:=h;exact⟨aH,H',I.oC ok,q⟩
 | cont=>obtain⟨aH,H',I,q⟩:=h;exact⟨aH,H',I.oC ok,q⟩
 | ret u=>obtain⟨v,aH,H',I,r,q⟩:=h;exact⟨v,aH,H',I.oC ok,r,q⟩
end
section
variable {X : Cx} {Nr : List (Addr × Obj)} {EE : St -> XK} {k : Nat} {f : Addr} {fd : FuncData} {ps : List Str} {sp : Sp} {x : Str} {p pos : Pos} {e : Expr} {es : List Expr} {t : TA}
def Yw (sp:Sp) (EE:St->XK) (t:TA):TE:=fun σ H Q=>t σ H fun vs H1=>sp vs H1 Q (EE σ)
theorem BR (F:aG X.prog X.w X.K X.mg X.base (c8 X.prog X.w) k f fd ps sp) (hr:aT k X.A) (hg:Gl X x) (hm:X.mg x=some (.ref f)) (hk:keepIn X.K (.ref f)=true) (hb:Binds X.K fd ps [])
  (ha:PA (X.kj Nr EE) (e::es) t) (gY:(x==("__debug__" : Str))=false:=by decide) (he:starEach (e::es) X.env=(false,eval e X.env)::starEach es X.env:=by rfl) (cB:(backTo pos (starEach es X.env)).any (·.1)=false:=by rfl) :
  PE (X.kj Nr EE) (.Call (.Name x p) (e::es) [] pos) (Yw sp EE t):=by
 intro pins s σ H Q I h
 refine pI (ly I hg hm ?_ gY)
 refine AK (h₀:=X.base) I.ok.mod.iM hk (au (ha pos pins s σ H _ I h) fun us s1 ⟨vs,H1,I1,r,q⟩=>⟨I1.a7,?_⟩) he cB
 have hl:us.length=ps.length:=by rw[<-r.length];exact F.len _ _ _ _ q
 have PZ:=hb s1 us I1.a7 (by rw[eV];exact hl)
 rw[eV]at PZ
 refine nL (pH (F.run X.A X.stack s1 H1 ⟨us,[]⟩ us vs _ _ hr I1.vW PZ r q) fun res s2 hq=>?_)
 cases res with
 | ok fl =>
  cases fl with
  | ret u=>exact I1.after hq
  | next=>exact False.elim hq
  | brk=>exact False.elim hq
  | cont=>exact False.elim hq
 | error ev=>exact⟨σ,H1,s1,I1.oC I1.ok.Zi,hq⟩
end
section
variable {X : Cx} {pins : List (Addr × Obj)} {σ : St} {H : Hp} {s : Shared}
theorem yL {M:Model}{A:Around}{E:Value->Shared->Prop}{i:Nat}{x:Str}{pos:Pos}{Q:Unit->Shared->Prop} (I:Inv X pins σ H s) (hN:X.N.Nodup) (hi:X.N[i]? = some x) (hk:X.env.scope.names.lookup x=some .local)
  (h:∀s',Inv X pins (σ.set i none) H s'->Q () s'):wpAny M A (do bindName X.env x .none;unbindBehindTheSuite X.env x pos) Q E s:=by
 obtain⟨m,hn,hl⟩:=id I.loc
 have lJ:(X.env.scope.kind == .class || (X.env.scope.kind == .module && X.env.locals != X.env.globals))=false:=by rw[I.ok.kind];rfl
 have kU:=I.kU
 refine wpAny_nameGoes_keeps hk hn lJ fun h' v i9 hs=>?_
 obtain⟨oL,_,_,Px,_⟩:=id hn
 have tracked:cq X.prog X.w H h':=fun b ob e=>by
  refine(I.ar b ob e).f' (fun c w' hc q=>(hs.2 c ?_).trans q) (fun _ q=>q) fun _ _ q=>q
  rintro rfl
  rcases hc with rfl | hc
  ·rw[I.free]at e;cases e
  ·rw[I.free]at hc;cases hc
 refine h _ ⟨I.ok,I.os,I.bare,⟨fun b o e n hb hx=>?_,fun b o e n hb hx=>?_,I.base.free,fun b o e hx=>?_,I.base.jv,I.base.iY,I.base.jw⟩,⟨_,i9,fun j y v' e1 e2 e3=>?_⟩,fun y c e=>?_,I.free,I.gT,fun p hp=>?_,tracked,by simpa using I.len⟩
 ·exact(hs.2 b (bh (fZ (aU e) I.ok.above))).trans (I.base.keep b o e n hb hx)
 ·obtain⟨sl,e1⟩:=I.base.slot b o e n hb hx
  exact⟨sl,(hs.2 b (bh (fZ (aU e) I.ok.above))).trans e1⟩
 ·obtain⟨o',e1⟩:=I.base.there b o e hx
  exact⟨o',(hs.2 b (bh (fZ (aU e) I.ok.above))).trans e1⟩
 ·by_cases hj:j=i
  ·subst hj
   by_cases aS:j < σ.length
   ·rw[Tb aS]at e2;cases e2
   ·rw[AR (by rw[List.length_set];omega)]at e2;cases e2
  ·rw[Tc (aO hj)]at e2
   obtain⟨u',r',q⟩:=hl j y v' e1 e2 e3
   refine⟨u',r',?_⟩
   rcases q with⟨k,e⟩|⟨k,c,e,z⟩
   ·refine .inl ⟨k,?_⟩
    have:y≠x:=fun e=>hj (BK hN e1 (e ▸ hi))
    simp[this,e]
   ·exact .inr ⟨k,c,e,z.sameBut hs (kU y c e)⟩
 ·obtain⟨w',z⟩:=I.cell y c e
  exact⟨w',z.sameBut hs (kU y c e)⟩
 ·obtain⟨e,n,ne,nf,d⟩:=I.pin p hp
  exact⟨(hs.2 p.1 ne).trans e,n,ne,nf,d⟩
end
def P2 (j:Nat) (D:Ends):Ends:={ nx:=fun σ H=>D.nx (σ.set j none) H,rt:=D.rt,bk:=fun σ H=>D.bk (σ.set j none) H,ct:=fun σ H=>D.ct (σ.set j none) H }
def asE (K:Frag) (B:Addr) (j:Nat) (th:Addr->TS) (D:Ends):St->XK:=fun aH cls oa H2=>(∃C,cls = .ref C/\mroIn K C (.ref B)=some true) /\ ∃a,oa=some a/\th a (P2 j D) (aH.set j (some (.ref a))) H2
section
variable {X : Cx} {j : Nat} {C : Addr} {n cn : Str} {p5 p6 p7 : Pos} {b0 b1 : Stmt} {body Nt : List Stmt} {tb : Ends -> TS} {th : Addr -> TS} {ci : Option Value}
def M3 (tb:Ends->TS):TS:=fun D σ H=>tb D D σ H
theorem LS (hb:∀pins D,gg (X.kj pins (asE X.K C j th D)) (b1::body) (tb D))
  (hN:X.N.Nodup) (hj:X.N[j]? = some n) (hn:X.env.scope.names.lookup n=some .local) (h0:X.xe=fun _ _=>False) (hc:X.calm=true) (hs:X.stack=X.env::X.outer) (hf:X.env.frame=some X.env.locals)
  (gc:Gl X cn) (mc:X.mg cn=some (.ref C)) (qc:dI X.K C ci=true) (hh:∀a,gg (X.gR a) (b0::Nt) (th a)) (Gk:(cn==("__debug__" : Str))=false:=by decide) :
  PS X (.Try (b1::body) [.ExceptHandler (some (.Name cn p5)) (some n) (b0::Nt) p6] [] [] p7) (M3 tb):=by
 intro pins s σ H D I h
 refine wpAny_Try_except ?_
 refine md (hb pins D [] s σ H D I.kj h) (fun fl s1 z=>?_) fun ev s2 z=>?_
 ·have z':=SP.oC I.ok z
  cases fl with
  | next=>exact x4 z'
  | brk=>exact z'
  | cont=>exact z'
  | ret u=>exact z'
 ·obtain⟨aH,H0,s1,I1,a,nn,C',a0,dx,H',B,rfl,os,bare,qR,⟨ox,jZ,hd,hz⟩,xf,na,new,⟨C2,eC,me⟩,a',ea,Gm⟩:=z
  cases ea
  cases eC
  rw[hs]at qR
  refine jS yK (wpAny_looks_onW (Q:=fun _ s'=>∃h',s'={ s2 with heap:=h' }/\Heap.HeldW B (X.env::X.outer) a (.ref C') a0 X.env.locals h'/\s2.heap.UpToSlots h') (by rw[<-hs];exact I1.ok.frames) hf qR fun h3 held qS=>⟨h3,rfl,held,qS⟩) fun _ s3 ⟨h3,e3,held,qS⟩ Gn=>?_
  subst e3
  refine jS pR (wpAny_landsW (Q:=fun _ s'=>∃h',s'={ s2 with heap:=h' }/\Heap.FlyingW B (X.env::X.outer) a (.ref C') a0 h'/\h3.UpToSlots h') held fun h4 kx jE=>⟨h4,rfl,kx,jE⟩) fun _ s4 ⟨h4,e4,kx,jE⟩ Gp=>?_
  subst e4
  have up:s2.heap.UpToSlots h4:=ye qS jE
  have rd:RD s2.heap h4:=Gn.trans Gp
  have lay:∀h5,Heap.FlyingW B (X.env::X.outer) a (.ref C') a0 h5->s2.heap.UpToSlots h5->RD s2.heap h5->Inv X pins aH (upd H' a (dJ nn C' dx a)) { s2 with heap:=h5 }:=fun h5 f5 u5 r5=>by
   obtain⟨u,ok⟩:=xf h5 f5.1 u5
   obtain⟨o5,e5,_⟩:=f5.there
   exact I1.vL (s':={ s2 with heap:=h5 }) os (u.add na new) (Mw ok na (Mv f5 ⟨o5,e5,(r5.dict jZ e5).1.trans hd,fun y ey=>(r5.dict jZ e5).2.trans (hz y ey)⟩)) bare (fun b z=>absurd z (by simp))
  have J:=lay h4 kx up rd
  obtain⟨o4,ja,uu⟩:=kx.there
  refine wpAny_handleBy_cons (codeAny_handlers_test ?_) (by intro z;cases z)
  refine ly (J.gR a) gc mc ?_ Gk
  refine Km (K:=X.K) J.a7 qc me ja uu ?_
  refine ak3 ?_
  refine jS pR (lands_againW (Q:=fun _ s'=>∃h',s'={ s2 with heap:=h' }/\Heap.FlyingW B (X.env::X.outer) a (.ref C') a0 h'/\h4.UpToSlots h') kx fun h5 qu qT=>⟨h5,rfl,qu,qT⟩) fun _ s5 ⟨h5,e5,qu,qT⟩ Gq=>?_
  subst e5
  have J5:=lay h5 qu (ye up qT) (rd.trans Gq)
  refine r9 (X:=X.gR a) (v:= .ref a) (J5.gR a) hN hj (.inl hn) rfl (fun s6 I6=>?_) (.inr hn)
  refine Tw (au (hh a pins _ _ _ (P2 j D) I6 Gm) fun fl s7 z=>?_)
  cases fl with
  | next=>obtain⟨iN,H7,I7,q⟩:=z;exact yL (I7.uncaught (Y:=X) J5.ok) hN hj hn fun s8 I8=>⟨_,H7,I8,q⟩
  | brk=>obtain⟨iN,H7,I7,q⟩:=z;exact yL (I7.uncaught (Y:=X) J5.ok) hN hj hn fun s8 I8=>⟨_,H7,I8,q⟩
  | cont=>obtain⟨iN,H7,I7,q⟩:=z;exact yL (I7.uncaught (Y:=X) J5.ok) hN hj hn fun s8 I8=>⟨_,H7,I8,q⟩
  | ret u=>obtain⟨v,iN,H7,I7,r,q⟩:=z;exact yL (I7.uncaught (Y:=X) J5.ok) hN hj hn fun s8 I8=>⟨v,_,H7,I8,r,q⟩
end
end L2
namespace L2
open PySem PySem.Spec PyProof.Rows PySem.W
section
variable {P : Program} {w : World} {K : Frag} {mg : Str -> Option Value} {base : Heap} {N : List Str} {qual : Str} {scope : Scope} {f : Addr} {cd : Value} {A : Around} {outer : List Env} {s : Shared} {H : Hp} {E : XK}
theorem CG:Passes (c8 P w) (i3 (c8 P w) P w K mg base N qual scope f cd A outer s H E) E:=by
 rintro pins σ H1 s1 e s2 I ⟨a,n,C,a0,dx,H',B,rfl,os,bare,qR,⟨ox,jZ,hd,hz⟩,xf,na,new,hE⟩
 show wpAny (model P w) _ (leaving _ (.ref a)) _ _ _
 have wN:s1.os=s.os:=I.os
 refine jS Bg (wpAny_leaves_onW (Q:=fun _ s'=>∃h',s'={ s2 with heap:=h' }/\Heap.FlyingW B outer a (.ref C) a0 h'/\s2.heap.UpToSlots h') I.ok.frames rfl qR fun h' fl up=>⟨h',rfl,fl,up⟩) fun _ s' ⟨h',es,fl,up⟩ rd=>?_
 subst es
 obtain⟨o',gv,_⟩:=fl.there
 refine⟨a,n,C,a0,dx,H',B,rfl,os.trans wN,bare,fl,⟨o',gv,(rd.dict jZ gv).1.trans hd,fun y ey=>(rd.dict jZ gv).2.trans (hz y ey)⟩,fun ir kb u2=>?_,na,?_,hE⟩
 ·obtain⟨u,ok⟩:=xf ir kb (ye up u2)
  have J:=I.vL (s':={ s2 with heap:=ir }) os u ok bare (fun b z=>absurd z (by simp))
  exact⟨J.base,J.ar⟩
 ·cases q:s.heap.get? a with
  | none=>rfl
  | some o =>
   obtain⟨o2,e2⟩:=I.base.there a o q (by show a ∉ ([]:List Addr);simp)
   rw[new]at e2;cases e2
end
section
variable {M : Model} {A : Around} {E : Value -> Shared -> Prop} {s : Shared} {B : Heap} {env : Env} {outer l : List Env} {L e : Addr} {cls a0 : Value}
theorem UN {oe:Obj}{vs:Array Value}{Q:Unit->Shared->Prop} (hfr:A.frames=some (env::outer)) (hl:s.heap.FunFrames B (env::outer)) (hf:env.frame=some L)
  (he:s.heap.get? e=some oe) (xg:B.StaysIn s.heap) (uv:B.get? e=none) (hd:oe.data = .fields vs) (h1:vs[1]? = some .none) (h0:vs[0]? = some a0)
  (h:∀h',Heap.HeldW B (env::outer) e oe.cls a0 L h'->s.heap.UpToSlots h'->Q () { s with heap:=h' }):wpAny M A (noteFrame (.ref e) env) Q E s:=by
 unfold noteFrame
 simp only[hf]
 refine af (iA he hd h1 ?_)
 rw[aq (by decide)]
 exact wpAny_entryW hfr hl hf he xg uv hd (AL.mp h1).1 h0 fun h' ⟨k1,k2,k3,k4⟩=>h h' ⟨k1,uv,k2,k3⟩ k4
theorem Ki {Q:Unit->Shared->Prop} (hh:Heap.HeldW B l e cls a0 L s.heap)
  (h:∀h',Heap.HeldW B l e cls a0 L h'->s.heap.UpToSlots h'->Q () { s with heap:=h' }):wpAny M A (setFlight (.ref e) (some L)) Q E s:=by
 obtain⟨xg,uv,hl,oe,vs,T,oT,ts,he,lJ,hd,h1,zO,zP,hT,qU,h3⟩:=hh
 have Oa:3 < ts.size:=(AL.mp h3).1
 have other:∀b,b≠T->(s.heap.update T (Obj.mapFields (·.setIfInBounds 3 ((some L:Option Addr).elim Value.none fun f=>rawInt f)))).get? b=s.heap.get? b:=fun b hb=>jg _ _ (aO hb)
 have LU:∀b o,s.heap.get? b=some o->(∀vs,o.data ≠ .fields vs)->b≠T:=fun b o hb k9 q=>by
  rw[q,hT]at hb;injection hb with hb;subst hb;exact k9 ts qU
 unfold setFlight
 refine af (iA he hd h1 ?_)
 rw[aA (show(Value.ref T != Value.none)=true from by simp)]
 refine uX hT qU Oa (h _ ⟨fun b o Gr=>(other b fun q=>by rw[q,zO]at Gr;cases Gr).trans (xg b o Gr),uv,
  hl.of_keeps fun b o hb k9=>⟨o,(other b (LU b o hb k9)).trans hb,rfl⟩,?_⟩ fun b o hb k9=>⟨o.slots,(other b (LU b o hb k9)).trans hb⟩)
 exact⟨oe,vs,T,_,_,(other e (aO zP)).trans he,lJ,hd,h1,zO,zP,pJ _ hT (Obj.isFreed_of_fields (TQ qU _)),TQ qU _,by simp[Oa]⟩
theorem Uw {aas:String}{Q:Flow->Shared->Prop} (hf:env.frame=some L) (hh:Heap.HeldW B l e cls a0 L s.heap)
  (h:∀h',Heap.HeldW B l e cls a0 L h'->s.heap.UpToSlots h'->RD s.heap h'->E (.ref e) { s with heap:=h' }):wpAny M A (PySem.passOn aas (.ref e) env:Sem Flow) Q E s:=by
 have hh':=hh
 obtain⟨_,_,_,oe,vs,T,oT,ts,he,lJ,hd,h1,_⟩:=hh'
 unfold PySem.passOn
 refine af (iA he hd h1 ?_)
 rw[aq (show ¬ ((Value.ref T==Value.none)=true) from by simp),hf]
 first
  | refine af (jS pR (Ki (Q:=fun _ s'=>∃h',s'={ s with heap:=h' }/\Heap.HeldW B l e cls a0 L h'/\s.heap.UpToSlots h') hh fun h' k u=>⟨h',rfl,k,u⟩) fun _ s' ⟨h',es,k,u⟩ rd=>?_)
  | refine af (aB (af (jS pR (Ki (Q:=fun _ s'=>∃h',s'={ s with heap:=h' }/\Heap.HeldW B l e cls a0 L h'/\s.heap.UpToSlots h') hh fun h' k u=>⟨h',rfl,k,u⟩) fun _ s' ⟨h',es,k,u⟩ rd=>?_)))
 subst es
 exact yd (h h' k u rd)
theorem Ux {Q:Unit->Shared->Prop} (hf:env.frame=some L) (hh:Heap.HeldW B (env::outer) e cls a0 L s.heap) (hQ:∀h',Heap.FlyingW B outer e cls a0 h'->s.heap.UpToSlots h'->Q () { s with heap:=h' }):wpAny M A (leaving env (.ref e)) Q E s:=by
 unfold leaving
 refine af (wpAny_noteFrame_againW hf hh.2.2.2 ?_)
 refine wpAny_landsW hh fun h' hfl up=>?_
 obtain⟨k1,k2,⟨_,_,k3⟩,k4⟩:=hfl
 exact hQ h' ⟨k1,k2,k3,k4⟩ up
theorem Kx {h h':Heap} (k:∀b o,h.get? b=some o->(∀vs,o.data ≠ .fields vs) -> ∃o',h'.get? b=some o' /\ ∀vs,o'.data ≠ .fields vs):∀ {l:List Env},h.FunFrames B l->h'.FunFrames B l
 | [],_=>trivial
 | _::_,⟨hk,⟨L,o,hf,hn,ho,hd⟩,hr⟩=>by
  obtain⟨o',gv,wJ⟩:=k L o ho hd
  exact⟨hk,⟨L,o',hf,hn,gv,wJ⟩,Kx k hr⟩
theorem VH {h h':Heap}{n:Addr}{m m':Str->Option Value} (hh:Heap.HeldW B l e cls a0 L h) (hs:Heap.SameBut n h h') (n0:h.Ns n m) (n1:h'.Ns n m') (hB:B.get? n=none):Heap.HeldW B l e cls a0 L h':=by
 obtain⟨xg,uv,hl,oe,vs,T,oT,ts,he,lJ,hd,h1,zO,zP,hT,qU,h3⟩:=hh
 obtain⟨o0,es0,ep0,ho0,zM,_⟩:=n0
 obtain⟨o1,eX,ep1,zQ,uw,_⟩:=n1
 have nf:∀b o us,h.get? b=some o->o.data = .fields us->b≠n:=fun b o us hb hu q=>by
  rw[q,ho0]at hb;cases hb;rw[zM]at hu;cases hu
 refine⟨fun b o q=>(hs.2 b fun z=>by rw[z,hB]at q;cases q).trans (xg b o q),uv,Kx (fun b o hb k9=>?_) hl,oe,vs,T,oT,ts,(hs.2 e (nf _ _ _ he hd)).trans he,lJ,hd,h1,zO,zP,(hs.2 T (nf _ _ _ hT qU)).trans hT,qU,h3⟩
 by_cases c:b=n
 ·subst c
  exact⟨o1,zQ,fun vs z=>by rw[uw]at z;cases z⟩
 ·exact⟨o,(hs.2 b c).trans hb,k9⟩
end
end L2
namespace L2
open PySem PySem.Spec PyProof.Rows PySem.W
theorem A5:entryFor table "proto.unchain" = some Builtin.«proto.unchain» :=entryFor_of_fast (by kernel_rfl)
section
variable {X : Cx} {pins : List (Addr × Obj)} {σ : St} {H : Hp} {s : Shared} {c : Addr}
def aat (c a C t:Addr) (dx:Option Addr) (s1 s2:Shared):Prop:=(∃ox vs,s2.heap.get? a=some ox/\ox.cls = .ref C/\ox.dict=dx/\ox.data = .fields vs/\vs[0]? = some (.ref t)/\vs[1]? = some .none/\vs[2]? = some (.ref c))/\(∀b,b≠a->s2.heap.get? b=s1.heap.get? b)/\s2.os=s1.os/\s2.gens=s1.gens
theorem U7 {e:Expr}{pos p0:Pos}{j:Nat}{te:TE}{Q:Flow->Shared->Prop}{XE:Value->Shared->Prop}{R:Addr->Addr->Option Addr->Hp->Prop} (hX:(X.gR c).xe=fun _ _=>False) (I:Inv (X.gR c) pins σ H s) (he:PE (X.gR c) e te)
  (h:te σ H fun v H1=>∃a C dx i C' jF,v = .ref a/\H1 a=some (bJ C dx a)/\(∀d,dx=some d -> ∃fs,H1 d=some (dv d fs))/\dh X.K C/\dI X.K C i=true/\H1 c=some (dJ (some .none) C' jF c)/\a≠c/\R a C dx H1)
  (fin:∀a C t dx H1 s1 s2,Inv (X.gR c) pins σ H1 s1->H1 a=some (bJ C dx a)->R a C dx H1->aat c a C t dx s1 s2->XE (.ref a) s2) :
  wpAny (model X.prog X.w) (X.A.mark (some (.ref c))) (exec (.Raise (some e) (some (.Constant .none j p0)) pos) X.env) Q XE s:=by
 rw[arm_exec_Raise]
 refine af (nJ (show wpAny _ _ (raiseStmt X.env (some (do let v <- eval e X.env;standAt pos;pure v)) (some (do let v <- eval (.Constant .none j p0) X.env;standAt pos;pure v))) _ _ _ from ?_))
 unfold raiseStmt
 refine af (af (Tw (au (he pins s σ H _ I h) fun u s1 ⟨v,H1,J,r,a,C,dx,i,C',jF,ev,ea,hd,xc,q,hc,P4,hR⟩=>af (nJ (aB ?_)))))
 subst ev
 obtain rfl:u = .ref a:=r
 obtain⟨ox,od,t,inst,rfl⟩:=J.Mr ea hd
 have yV:Looks (model X.prog X.w) s1.heap (isType (.ref a)) false:=fun A' Q' E' s' k z=>by
  simp only[isType,loadHead]
  exact af (ya (k _ _ inst.at_) (aB z))
 have Gi:Looks (model X.prog X.w) s1.heap (isInstance (.ref a) (.type "BaseException")) true:=inst.type.andThen (AJ J.a7 xc.be)
 obtain⟨bm,N,nm,qn,bs,y6,sn,sub,ab,col,dd,k0,k1,k2,k3,k5,mN,hC,_⟩:=(pU J.a7 q).ex
 have naC:C≠a:=fun z=>by rw[z]at hC;have h1:=inst.at_;rw[hC]at h1;cases h1
 obtain⟨oc,vc,cat,_,_,fq,Gs⟩:=(J.ar c _ hc).1
 have cx:=Gs _ rfl
 have jG:=inst.at_
 refine af (dX (af (Constant_none (af (nJ (aB (af (aB ?_))))))))
 refine af (dX ?_)
 unfold excFromValue isExcClass
 refine af (af (yV.here (aB ?_)))
 refine af (Gi.here (aB ?_))
 dsimp only
 rw[aA (show(Value.none==Value.none)=true from by decide)]
 refine af (aB ?_)
 refine af (uX jG rfl (show 3 < 6 by decide) ?_)
 have gk:=pJ (h:=s1.heap) (Obj.mapFields (·.setIfInBounds 3 Value.none)) jG rfl
 refine af (uX gk rfl (show 4 < 6 by decide) ?_)
 have at2:=pJ (Obj.mapFields (·.setIfInBounds 4 (Value.bool true))) gk rfl
 have zR:∀b,b≠a->((s1.heap.update a (Obj.mapFields (·.setIfInBounds 3 Value.none))).update a (Obj.mapFields (·.setIfInBounds 4 (Value.bool true)))).get? b=s1.heap.get? b:=fun b hb=>(jg _ _ (aO hb)).trans (jg _ _ (aO hb))
 generalize hh2:(s1.heap.update a (Obj.mapFields (·.setIfInBounds 3 Value.none))).update a (Obj.mapFields (·.setIfInBounds 4 (Value.bool true)))=h2 at at2 zR
 refine af (show wpAny _ _ (isType (.ref a)) _ _ _ from ?_)
 simp only[isType,loadHead]
 refine af (ya at2 (aB ?_))
 unfold raisedInstance
 have tyL:Looks (model X.prog X.w) h2 (typeOf (.ref a)) (.ref C):=(Looks.ld at2).andThen .now
 have Gj:({ s1 with heap:=h2 }:Shared).TypeIs (.ref C) "type" :=⟨_,(zR C naC).trans hC,rfl⟩
 refine af (af (tyL.here (af (x8 Gj ?_))))
 rw[aA (show(Value.type "type" == Value.type "type")=true from by decide)]
 refine aB ?_
 unfold setFlight raiseNew
 refine af (af (iA at2 rfl (x:= .none) rfl ?_))
 rw[aq (show ¬ ((Value.none != Value.none)=true) from by decide)]
 refine aB (af (wpAny_handled ?_))
 show wpAny _ _ (if (Value.ref c != Value.ref a)=true then _ else _) _ _ _
 rw[aA (show(Value.ref c != Value.ref a)=true from by simp;exact fun z=>P4 z.symm)]
 refine af (dX (AS (jh A5 ?_)))
 unfold Builtin.«proto.unchain»
 refine af (iA ((zR c (aO P4)).trans cat) fq cx ?_)
 rw[aA (show(Value.none==Value.none)=true from by decide)]
 refine af (aB (aB ?_))
 show wpAny _ _ (do updateField a 2 (.ref c);throw (Value.ref a)) _ _ _
 refine af (show wpAny _ _ (setField (.ref a) 2 (.ref c)) _ _ _ from uX at2 rfl (show 2 < 6 by decide) ?_)
 have PY:=pJ (Obj.mapFields (·.setIfInBounds 2 (Value.ref c))) at2 rfl
 refine yd (fin a C t dx H1 s1 _ J ea hR ⟨⟨_,_,PY,rfl,rfl,rfl,rfl,rfl,rfl⟩,fun b hb=>(jg _ _ (aO hb)).trans (zR b hb),rfl,rfl⟩)
end
end L2
namespace L2
open PySem PySem.Spec PyProof.Rows PySem.W
section
variable {X : Cx} {pins : List (Addr × Obj)} {σ : St} {H H1 : Hp} {s s1 : Shared} {a C : Addr} {dx : Option Addr}
theorem Inv.Xv (I:Inv X pins σ H s) (hx:X.ex = []) (hs:X.stack=X.env::X.outer) (hf:X.env.frame=some X.env.locals) (ha:H a=some (bJ C dx a)) (h0:X.iI a=none) {h':Heap}
  (k:(hideAll s.heap (a::cu X.stack)).StaysIn h') (vP:∀b o,b∈X.fs->s.heap.get? b=some o -> ∃sl,h'.get? b=some { o with slots:=sl }):Un X.fs [] X.iI (iG H a) X.cp.heap h'/\cq X.prog X.w (iG H a) h':=by
 have ub:Un X.fs [] X.iI H X.cp.heap s.heap:=by have:=I.base;rw[hx]at this;exact this
 have wg:∀b,b∈cu X.stack->b=X.env.locals\/b∈X.fs:=fun b hb=>by
  have:=I.vx b hb
  rcases bq.mp this with z | z
  ·exact .inl z
  ·exact .inr z
 have nA:∀ {b:Addr},H b=none->b≠a:=fun e z=>by subst z;rw[ha]at e;cases e
 have get:∀b o,s.heap.get? b=some o->b≠a->b ∉ cu X.stack->h'.get? b=some o:=fun b o e n m=>k b o (hideAll_get _ e fun z=>by
  rcases bq.mp z with z | z
  ·exact n z
  ·exact m z)
 have wj:∀b o,X.cp.heap.get? b=some o->b≠X.env.locals:=fun b o e z=>by
  have h1:=aU e
  have h2:=I.ok.above
  subst z
  exact absurd h1 (TK.mpr h2)
 refine⟨⟨fun b o e n m _=>?_,fun b o e n m _=>?_,fun b o e n _=>KP (ub.free b o e n (by simp)),fun b o e _=>?_,fun b xs e=>?_,fun b o u e=>?_,fun b ps e=>?_⟩,fun b o e=>?_⟩
 ·have e1:=ub.keep b o e n m (by simp)
  refine get b o e1 (nA (ub.free b o e n (by simp))) fun z=>?_
  rcases wg b z with z | z
  ·exact wj b o e z
  ·exact m z
 ·obtain⟨sl,e1⟩:=ub.slot b o e n m (by simp)
  obtain⟨wL,e2⟩:=vP b _ m e1
  exact⟨wL,e2⟩
 ·obtain⟨o',e1⟩:=ub.there b o e (by simp)
  by_cases m:b∈X.fs
  ·obtain⟨sl,e2⟩:=vP b _ m e1
   exact⟨_,e2⟩
  ·refine⟨o',get b o' e1 (fun z=>?_) fun z=>?_⟩
   ·subst z
    have:=ub.free b o e h0 (by simp)
    rw[ha]at this;cases this
   ·rcases wg b z with z | z
    ·exact wj b o e z
    ·exact m z
 ·have e1:=ub.jv b xs e
  rw[kf (b7 e1 ha (by intro z;cases z))];exact e1
 ·have e1:=ub.iY b o u e
  rw[kf (b7 e1 ha (by intro z;cases z))];exact e1
 ·obtain⟨mo,e1⟩:=ub.jw b ps e
  exact⟨mo,by rw[kf (b7 e1 ha (by intro z;cases z))];exact e1⟩
 ·obtain⟨n,e1⟩:=KO e
  have qp:∀ {c:Addr}{u:HO},H c=some u->c ∉ cu X.stack:=fun q m=>by
   have:=I.yH _ m
   rw[q]at this;cases this
  refine(I.ar b o e1).f' (fun c u hc q=>?_) (fun c q=>?_) fun c xs q=>?_
  ·rcases hc with rfl | q1
   ·exact get _ u q n (qp e1)
   ·exact get c u q (b7 q1 ha (by intro z;cases z)) (qp q1)
  ·rw[kf (b7 q ha (by intro z;cases z))];exact q
  ·rw[kf (b7 q ha (by intro z;cases z))];exact q
end
def reE (K:Frag) (H0:Hp) (E:XK) (B:Addr) (j:Nat) (te:Addr->TE):St->XK:=fun aH cls oa H2=>(∃C,cls = .ref C/\mroIn K C (.ref B)=some true) /\ ∃a,oa=some a/\te a (aH.set j (some (.ref a))) H2 fun v H3 =>
 ∃a2 C2 dx i C' jF,v = .ref a2/\H3 a2=some (bJ C2 dx a2)/\(∀d,dx=some d -> ∃fs,H3 d=some (dv d fs))/\dh K C2/\dI K C2 i=true/\H3 a=some (dJ (some .none) C' jF a)/\a2≠a/\H0 a2=none/\E (.ref C2) (some a2) (upd H3 a2 (dJ (some (.ref a)) C2 dx a2))
section
variable {P : Program} {w : World} {K : Frag} {mg : Str -> Option Value} {base : Heap} {N : List Str} {qual : Str} {scope : Scope} {f : Addr} {cd : Value} {A : Around} {outer : List Env} {s : Shared} {H : Hp} {E : XK}
variable {j jj : Nat} {Bc : Addr} {n cn : Str} {p0 p5 p6 p7 pos : Pos} {b1 : Stmt} {body : List Stmt} {e : Expr} {te : Addr -> TE} {tb : Ends -> TS} {ci : Option Value}
theorem Wo {X:Cx} (hX:X=i3 (c8 P w) P w K mg base N qual scope f cd A outer s H E) (hb:∀pins D,gg (X.kj pins (reE K H E Bc j te)) (b1::body) (tb D))
  (hN:X.N.Nodup) (hj:X.N[j]? = some n) (hn:X.env.scope.names.lookup n=some .local)
  (gc:Gl X cn) (mc:X.mg cn=some (.ref Bc)) (qc:dI X.K Bc ci=true) (he:∀a,PE (X.gR a) e (te a)) (Gk:(cn==("__debug__" : Str))=false:=by decide) :
  PS X (.Try (b1::body) [.ExceptHandler (some (.Name cn p5)) (some n) [.Raise (some e) (some (.Constant .none jj p0)) pos] p6] [] [] p7) (M3 tb):=by
 subst hX
 generalize hX:i3 (c8 P w) P w K mg base N qual scope f cd A outer s H E=X at *
 have hs:X.stack=X.env::X.outer:=by subst hX;rfl
 have hf:X.env.frame=some X.env.locals:=by subst hX;rfl
 have hex:X.ex = []:=by subst hX;rfl
 have hK:X.K=K:=by subst hX;rfl
 have hH:X.iI=H:=by subst hX;rfl
 have hP:X.prog=P:=by subst hX;rfl
 have hw:X.w=w:=by subst hX;rfl
 intro pins s0 σ H0 D I h
 refine wpAny_Try_except ?_
 refine md (hb pins D [] s0 σ H0 D I.kj h) (fun fl s1 z=>?_) fun ev s2 z=>?_
 ·have z':=SP.oC I.ok z
  cases fl with
  | next=>exact x4 z'
  | brk=>exact z'
  | cont=>exact z'
  | ret u=>exact z'
 ·obtain⟨aH,H0,s1,I1,a,nn,C',a0,dx,H',B,rfl,os,bare,qR,⟨ox,jZ,hd,hz⟩,xf,na,new,⟨C2,eC,me⟩,a',ea,Gm⟩:=z
  cases ea
  cases eC
  rw[hs]at qR
  refine jS yK (wpAny_looks_onW (Q:=fun _ s'=>∃h',s'={ s2 with heap:=h' }/\Heap.HeldW B (X.env::X.outer) a (.ref C') a0 X.env.locals h'/\s2.heap.UpToSlots h') (by rw[<-hs];exact I1.ok.frames) hf qR fun h3 held qS=>⟨h3,rfl,held,qS⟩) fun _ s3 ⟨h3,e3,held,qS⟩ Gn=>?_
  subst e3
  refine jS pR (wpAny_landsW (Q:=fun _ s'=>∃h',s'={ s2 with heap:=h' }/\Heap.FlyingW B (X.env::X.outer) a (.ref C') a0 h'/\h3.UpToSlots h') held fun h4 kx jE=>⟨h4,rfl,kx,jE⟩) fun _ s4 ⟨h4,e4,kx,jE⟩ Gp=>?_
  subst e4
  have up:s2.heap.UpToSlots h4:=ye qS jE
  have rd:RD s2.heap h4:=Gn.trans Gp
  have lay:∀h5,Heap.FlyingW B (X.env::X.outer) a (.ref C') a0 h5->s2.heap.UpToSlots h5->RD s2.heap h5->Inv X pins aH (upd H' a (dJ nn C' dx a)) { s2 with heap:=h5 }:=fun h5 f5 u5 r5=>by
   obtain⟨u,ok⟩:=xf h5 f5.1 u5
   obtain⟨o5,e5,_⟩:=f5.there
   exact I1.vL (s':={ s2 with heap:=h5 }) os (u.add na new) (Mw ok na (Mv f5 ⟨o5,e5,(r5.dict jZ e5).1.trans hd,fun y ey=>(r5.dict jZ e5).2.trans (hz y ey)⟩)) bare (fun b z=>absurd z (by simp))
  have J:=lay h4 kx up rd
  obtain⟨o4,ja,uu⟩:=kx.there
  refine wpAny_handleBy_cons (codeAny_handlers_test ?_) (by intro z;cases z)
  refine ly (J.gR a) gc mc ?_ Gk
  refine Km (K:=X.K) J.a7 qc (hK ▸ me) ja uu ?_
  refine ak3 ?_
  refine jS pR (lands_againW (Q:=fun _ s'=>∃h',s'={ s2 with heap:=h' }/\Heap.FlyingW B (X.env::X.outer) a (.ref C') a0 h'/\h4.UpToSlots h') kx fun h5 qu qT=>⟨h5,rfl,qu,qT⟩) fun _ s5 ⟨h5,e5,qu,qT⟩ Gq=>?_
  subst e5
  have J5:=lay h5 qu (ye up qT) (rd.trans Gq)
  refine r9 (X:=X.gR a) (v:= .ref a) (J5.gR a) hN hj (.inl hn) rfl (fun s6 I6=>?_) (.inr hn)
  refine Td (U7 (c:=a) (X:=X) (R:=fun a2 C2 zS H3=>H a2=none/\E (.ref C2) (some a2) (upd H3 a2 (dJ (some (.ref a)) C2 zS a2))) rfl I6 (he a) (hK ▸ Gm) fun a2 C2 t zS H3 s7 s8 J7 zT ⟨h0,hE⟩ ⟨⟨o8,vs8,Gu,cl8,di8,P6,v0,v1,v2⟩,zU,os8,gs8⟩=>?_)
  have fr:s7.heap.FunFrames X.base X.stack:=J7.stack
  obtain⟨t7,at7⟩:=J7.excAt zT
  have P7:∀b o,s7.heap.get? b=some o->(∀vs,o.data ≠ .fields vs)->b≠a2:=fun b o hb k9 z=>by
   rw[z,at7]at hb;cases hb;exact k9 _ rfl
  have all:∀env∈X.stack,∀b,env.frame=some b->b∈a2::cu X.stack:=fun env m b hb=>bU _ (pG.mpr ⟨env,m,hb⟩)
  have ff7:s7.heap.FunFrames (hideAll s7.heap (a2::cu X.stack)) X.stack:=funFrames_hide fr all
  have ff8:s8.heap.FunFrames (hideAll s7.heap (a2::cu X.stack)) X.stack:=ff7.of_keeps fun b o hb k9=>⟨o,(zU b (P7 b o hb k9)).trans hb,rfl⟩
  have st8:(hideAll s7.heap (a2::cu X.stack)).StaysIn s8.heap:=fun b o hb=>by
   have n2:b≠a2:=fun z=>by rw[z,AQ _ ba]at hb;cases hb
   exact(zU b n2).trans (of_hideAll _ hb)
  have nl:X.env.locals≠a2:=fun z=>by
   have:=J7.free
   rw[show(X.gR a).env.locals=X.env.locals from rfl,z,zT]at this;cases this
  have aau:(hideAll s7.heap (a2::cu X.stack)).get? X.env.locals=none:=AQ _ (bU _ (by rw[hs];exact pG.mpr ⟨X.env,ba,hf⟩))
  obtain⟨m7,ns7,_⟩:=J7.loc
  have aav:s7.heap.Ns X.env.locals m7:=ns7
  have ns8:s8.heap.Ns X.env.locals m7:=by
   obtain⟨oo,es,ep,ho,r⟩:=aav
   exact⟨oo,es,ep,(zU _ nl).trans ho,r⟩
  have frA:(X.A.mark (some (.ref a))).frames=some (X.env::X.outer):=by rw[<-hs];exact J7.ok.frames
  refine jS yK (UN (Q:=fun _ s'=>∃h',s'={ s8 with heap:=h' }/\Heap.HeldW (hideAll s7.heap (a2::cu X.stack)) (X.env::X.outer) a2 o8.cls (.ref t) X.env.locals h'/\s8.heap.UpToSlots h') frA (by rw[<-hs];exact ff8) hf Gu st8 (AQ _ ba) P6 v1 v0 fun h' k u=>⟨h',rfl,k,u⟩) fun _ s9 ⟨h9,e9,Nu,P8⟩ Qa=>?_
  subst e9
  have Qb:h9.Ns X.env.locals m7:=P8.ns ns8
  have lJ:(X.env.scope.kind == .class || (X.env.scope.kind == .module && X.env.locals != X.env.globals))=false:=by rw[I1.ok.kind];rfl
  refine wpAny_nameGoes_keeps hn Qb lJ fun zV v i9 i'=>?_
  have Yx:=VH Nu i' Qb i9 aau
  have pas:∀s',X.xe (.ref a2) s'->notedBy (model X.prog X.w) (X.A.mark (some (.ref a))) X.env (cameBackBy (model X.prog X.w) X.A X.env X.xe) (.ref a2) s':=by subst hX;exact fun s' z=>PassesOwnAt.leaving _ _ z
  have xe:∀s',X.xe (.ref a2) s' ↔ wpAny (model X.prog X.w) X.A (leaving X.env (.ref a2)) (fun _ kZ=>c8 P w X.outer H s E (.ref a2) kZ) (fun e' kZ=>c8 P w X.outer H s E e' kZ) s':=by subst hX;exact fun s'=>Iff.rfl
  refine Uw hf Yx fun oW sM aaw Ob=>pas _ ((xe _).mpr ?_)
  have Yy:∀b o,b∈X.fs->s7.heap.get? b=some o -> ∃sl,oW.get? b=some { o with slots:=sl }:=fun b o m hb=>by
   obtain⟨_,o',e',nf⟩:=J7.fg.mem m
   rw[hb]at e';cases e'
   obtain⟨sl,q9⟩:=P8 b o ((zU b (P7 b o hb nf)).trans hb) nf
   have zW:b≠X.env.locals:=fun z=>by
    have lt:=aU (show X.cp.heap.get? b=some _ from(J7.ok.fg.mem m).2.choose_spec.1)
    have:=J7.ok.above
    rw[z]at lt
    exact absurd lt (TK.mpr this)
   have q10:zV.get? b=some { o with slots:=sl }:=(i'.2 b zW).trans q9
   obtain⟨qL,q11⟩:=aaw b _ q10 nf
   exact⟨qL,q11⟩
  have cx8:oB o8=some (.ref a):=by unfold oB;rw[P6];exact v2
  have aax:∃o,zV.get? a2=some o/\o.dict=zS/\oB o=some (.ref a):=by
   obtain⟨o9,e9,_⟩:=Nu.there
   exact⟨o9,(i'.2 a2 (aO nl)).trans e9,(Qa.dict Gu e9).1.trans di8,(Qa.dict Gu e9).2.trans cx8⟩
  obtain⟨o10,Oc,d10,c10⟩:=aax
  have aay:o8.cls = .ref C2:=cl8
  rw[aay]at sM
  refine jS Bg (Ux (Q:=fun _ s'=>∃h',s'.heap=h'/\s'.os=s8.os/\s'.gens=s8.gens/\Heap.FlyingW (hideAll s7.heap (a2::cu X.stack)) X.outer a2 (.ref C2) (.ref t) h'/\oW.UpToSlots h') hf sM fun h' k u=>⟨h',rfl,rfl,rfl,k,u⟩) fun _ s12 ⟨xh,zX,aaz,aaA,Od,aaB⟩ Oe=>?_
  subst zX
  obtain⟨o12,Dh,_⟩:=Od.there
  have aaC:s7.os=X.cp.os:=J7.os
  have Gv:X.cp=s:=by subst hX;rfl
  have hfs:X.fs=cu X.outer:=rfl
  have aaD:s.heap.get? a2=none:=by
   have ub:Un X.fs X.ex X.iI H3 X.cp.heap s7.heap:=J7.base
   cases q:s.heap.get? a2 with
   | none=>rfl
   | some o =>
    have:=ub.free a2 o (by rw[Gv];exact q) (by rw[hH];exact h0) (by rw[hex];simp)
    rw[zT]at this;cases this
  refine⟨a2,some (.ref a),C2,.ref t,zS,iG H3 a2,hideAll s7.heap (a2::cu X.stack),rfl,aaz.trans (os8.trans (aaC.trans (by rw[Gv]))),by rw[aaA,gs8];exact J7.bare,Od,⟨o12,Dh,?_,fun y ey=>by cases ey;exact(Oe.dict (h:=oW) (sM.there.choose_spec.1) Dh).2.trans (((Ob.dict Oc sM.there.choose_spec.1).2).trans c10)⟩,fun h13 k13 u13=>?_,by unfold iG;rw[aA rfl],aaD,by rw[LR];exact hE⟩
  ·have q:=(Oe.dict (h:=oW) (sM.there.choose_spec.1) Dh).1
   exact q.trans (((Ob.dict Oc sM.there.choose_spec.1).1).trans d10)
  ·have r:=J7.Xv (h':=h13) (a:=a2) hex hs hf zT (by rw[show(X.gR a).iI=X.iI from rfl,hH];exact h0) k13 fun b o m hb=>by
    obtain⟨_,o',e',nf⟩:=J7.fg.mem m
    rw[hb]at e';cases e'
    obtain⟨sl,q⟩:=Yy b o m hb
    obtain⟨qL,q2⟩:=aaB b _ q nf
    obtain⟨sl3,q3⟩:=u13 b _ q2 nf
    exact⟨sl3,q3⟩
   rw[<-Gv,<-hH,<-hP,<-hw]
   exact r
end
end L2
namespace L2
open PySem PySem.Spec PyProof.Rows PySem.W HT
section
variable {X : Cx}
theorem Bx (hc:X.calm=true):df X (.builtin "any") (fun xs H Q=>∃ (p:Addr) (bs:List Bool),xs = [.ref p]/\aj X.K H p (bs.map V.bl)/\Q (.bl (bs.any id)) H):=by
 intro pins s σ H xs us Q I r h
 obtain⟨p,bs,rfl,hq,q⟩:=h
 obtain⟨u,rfl,rx⟩:=vals1 r
 cases rx
 obtain⟨its,rv,pl,hz⟩:=I.list hq
 have hlen:=rv.length
 have vals:its=bs.map Value.bool:=by
  clear q hq pl hz r hlen
  induction bs generalizing its with
  | nil=>cases rv;rfl
  | cons b bs ih =>
   cases rv with
   | cons r1 rt=>cases r1;rw[ih _ rt];rfl
 have new:∀b o,s.heap.get? b=some o->b≠s.heap.objs.size:=fun b o e=>bh (aU e)
 obtain⟨ol,xb,_⟩:=id pl.isList
 refine call_any_walk (AD pl.isList ?_)
 refine⟨s.heap.objs.size,_,_,_,_,_,fun i=>bs.getD i false,rfl,Walks.list (A:=X.A.in1) (I.ok.hd hc) s.heap.objs.size p (new p ol xb) its.toArray,⟨⟨_,dj _ rfl,rfl,rfl⟩,pl.isList.at fun o e=>bj _ e⟩,fun i v s2 Q2 E2 hv oV=>?_,fun h' tk kp=>?_⟩
 ·rw[vals]at hv
  have:bs[i]?.map Value.bool=some v:=by simpa using hv
  obtain⟨b,hb,rfl⟩:=iS.mp this
  refine lq ?_
  have e:bs.getD i false=b:=by rw[d4,hb];rfl
  exact e ▸ oV
 ·have fin:(List.range its.toArray.size).any (fun i=>bs.getD i false)=bs.any id:=by
   have hs:its.toArray.size=bs.length:=by rw[vals];simp
   rw[hs]
   apply rD.mpr
   simp only[pN,l8]
   constructor
   ·rintro⟨i,hi,e⟩
    exact⟨bs[i],iT hi,by simpa [List.getD,hi] using e⟩
   ·rintro⟨b,hb,e⟩
    obtain⟨i,hi,rfl⟩:=AO hb
    exact⟨i,hi,by simpa [List.getD,hi] using e⟩
  rw[fin]
  exact⟨.bl _,H,I.kept (t':=tk) fun b o e=>kp b o (by simpa using new b o e) (bj _ e),rfl,q⟩
def Gw (x:Str):It:=⟨fun i _=>i < x.cps.size,fun i H v H'=>H'=H /\ ∃c,x.cps[i]? = some c/\v = .str ⟨#[c]⟩,fun i _=>x.cps.size<=i⟩
theorem LV {P:Program}{w:World}{K:Frag}{tg:Expr} (it:Addr) (x:Str) (t:Tok) (T:String) (hT : ["enumerate", "zip", "dict_itemiterator", "dict_reverseitemiterator", "odict_iterator", "itertools.zip_longest", "itertools.pairwise"].contains T=false)
  (W:∀A':Around,A'.handled=none->Walks P w A' it [it] [it] x.cps.size (SignAt x) (fun i h=>h.IsStrIter it T x t i))
  (hs:∀ (A:Around) (i:Nat) (s:Shared) (Q:Value->Shared->Prop) (E:Value->Shared->Prop),s.heap.IsStrIter it T x t i->Q (.ref it) s->wpAny (model P w) A (pyIter (.ref it)) Q E s):Turn P w K tg (Gw x) [it] it (fun i h=>i<=x.cps.size/\h.IsStrIter it T x t i) where
 mem:=by simp
 obj:=fun i h st b hb=>by
  obtain rfl:b=it:=by simpa using hb
  obtain⟨_,o,e,c,d⟩:=st
  exact⟨o,e,fun v z=>by rw[d]at z;cases z⟩
 keep:=fun i h h' st k=>by
  obtain⟨l,o,e,r⟩:=st
  exact⟨l,o,k it (by simp) _ e,r⟩
 item:=by
  intro X hP hw hK hc i pins s σ H E I hf st hg
  subst hP hw hK
  obtain⟨f0,f1,f2,f3,f4,f5⟩:=hf it (by simp)
  refine(W X.A (I.ok.hd hc)).item i s _ _ hg st.2 fun v h' tk hv fu kk=>?_
  obtain⟨c,u,Gs,rfl⟩:=hv
  have I1:Inv X pins σ H { s with heap:=h',toks:=tk }:=I.turned (fun b o hb e=>kk b o (by simpa using hb) e) f0 f1 f3 f4 f5
  obtain⟨o,e,cl,d⟩:=id fu
  exact⟨_,rfl,vM (s:={ s with heap:=h',toks:=tk }) e cl d hT ⟨.str ⟨#[c]⟩,H,I1,⟨u,rfl⟩,⟨rfl,c,Gs,rfl⟩,⟨hg,fu⟩,fun b hb=>(hf b hb).1⟩⟩
 done:=by
  intro X hP hw hK hc i pins s σ H E I hf st hg
  subst hP hw hK
  obtain⟨f0,f1,f2,f3,f4,f5⟩:=hf it (by simp)
  have ei:i=x.cps.size:=Nat.le_antisymm st.1 hg
  subst ei
  exact(W X.A (I.ok.hd hc)).done s _ _ st.2 fun h' tk kk=>⟨rfl,I.turned (fun b o hb e=>kk b o (by simpa using hb) e) f0 f1 f3 f4 f5⟩
 self:=fun A i s Q E st h=>hs A i s Q E st.2 h
def aaE (te:TE):TI:=fun σ H R=>te σ H fun v H1=>∃x,v = .str x/\R (Gw x) H1
theorem Yz {tg e:Expr}{te:TE} (he:PE X e te):PI X tg e (aaE te):=by
 intro pins s σ H R I h
 refine au (he pins s σ H _ I h) fun v s1 ⟨y,H1,I1,r1,x,ey,q⟩=>?_
 subst ey
 obtain⟨t,rfl⟩:=r1
 have I2:∀o:Obj,Inv X pins σ H1 { s1 with heap:=s1.heap.push o }:=fun o=>I1.kept (t':=s1.toks) fun b ob z=>bj _ z
 have fp:∀b ∈ [s1.heap.objs.size],fh X pins H1 b:=fun b hb=>by
  obtain rfl:b=s1.heap.objs.size:=by simpa using hb
  exact I1.kr (aN _) (I1.ar.fresh (aN _))
 cases ha:x.cps.all (· < 128)
 ·refine wpAny_pyIter_wide ha ?_
  exact⟨s1.heap.objs.size,[s1.heap.objs.size],_,_,H1,rfl,I2 _,LV s1.heap.objs.size x t "str_iterator" (by decide) (fun A' hA=>Walks.strWide hA _ x t) (fun _ _ _ _ _ st h=>wpAny_pyIter_striter_wide st h),⟨a4 _,_,dj _ rfl,rfl,rfl⟩,fp,q⟩
 ·refine wpAny_pyIter_ascii ha ?_
  exact⟨s1.heap.objs.size,[s1.heap.objs.size],_,_,H1,rfl,I2 _,LV s1.heap.objs.size x t "str_ascii_iterator" (by decide) (fun A' hA=>Walks.strAscii hA _ x t) (fun _ _ _ _ _ st h=>wpAny_pyIter_striter_ascii st h),⟨a4 _,_,dj _ rfl,rfl,rfl⟩,fp,q⟩
theorem Wq {x:Str}{g:TG}{ti:TT}{te:TE}{iq:St}{Q:VK}{p:Addr}{H1:Hp} (Pv:Nat->List V->St->Hp->Prop) (h0:Pv 0 [] iq (upd H1 p (.lst []))) (hl:∀i ys τ H,Pv i ys τ H->H p=some (.lst ys))
  (hs:∀i c ys τ H,x.cps[i]? = some c->Pv i ys τ H->g (.str ⟨#[c]⟩) τ H fun c7 H4=>ti c7 H4 fun b H5=>if b=true then te c7 H5 fun y H6=>H6 p=some (.lst ys)/\ys.length < sizeLine /\ ∃m',m' < x.cps.size - i/\CW Pv x.cps.size (i+1) m' (ys ++ [y]) c7 (upd H6 p (.lst (ys ++ [y]))) else ∃m',m' < x.cps.size - i/\CW Pv x.cps.size (i+1) m' ys c7 H5)
  (hd:∀ys τ H,Pv x.cps.size ys τ H->Q (.ref p) H):ju (Gw x) g ti te iq Q p H1:=by
 refine⟨CW Pv x.cps.size,⟨x.cps.size,by simp,a4 _,h0⟩,?_⟩
 rintro i m ys τ H ⟨rfl,hi,pv⟩
 refine⟨hl i ys τ H pv,?_⟩
 by_cases aS:i < x.cps.size
 ·refine .inr ⟨aS,fun v H3 y3=>?_⟩
  obtain⟨e3,c,hc,rfl⟩:=y3
  subst e3
  exact hs i c ys τ _ hc pv
 ·have e:i=x.cps.size:=by omega
  subst e
  exact .inl ⟨aN _,hd ys τ H pv⟩
end
end L2
namespace HT
open PySem PyProof.Rows PySem.W L2
theorem Up (a:Addr) (vs:Array Value) (n:Nat) (u:Tok) (sl:Array (Option Value)) :
  Meets (Builtin.«object.__getattribute__» ⟨[.ref a,.str "keys" u],[]⟩) (fun A R s=>s.heap.get? a=some { cls:= .type "tuple", dict:=none,data:= .seq vs n,slots:=sl }/\raisesAttr (.ref a) "keys" A R s):=
 meets_getattribute_miss_tuple a vs n sl "keys" u (by rw[typeLookup_type,builtinLookup_eq_fast];kernel_rfl) (by decide +kernel) (by rw[aI];decide +kernel)
theorem Wr {prog:Program}{w:World}{A:Around}{E:Value->Shared->Prop}{s:Shared}{a:Addr}{vs:Array Value}{n:Nat}{sl:Array (Option Value)}{Q:Option Value->Shared->Prop} (hx:s.heap.get? a=some { cls:= .type "tuple", dict:=none,data:= .seq vs n,slots:=sl }) (hA:A.handled=none)
  (h:∀h' tk,(∀b o,s.heap.get? b=some o->h'.get? b=some o)->Q none { s with heap:=h',toks:=tk }):wpAny (model prog w) A (getAttr? (.ref a) "keys") Q E s:=by
 obtain⟨hp,g,d,tk,os⟩:=s
 have hT:∀nz,(⟨hp,g,d,nz,os⟩:Shared).TypeIs (.ref a) "tuple" :=fun _=>⟨_,hx,rfl⟩
 have f1:=sub_AttributeError
 have f3:=TR.lookup
 have f4:=TR.bind (.ref a)
 have f5:=am_tuple_getattr_none
 unfold getAttr? getAttrBy? getAttrBy
 repeat (any_goals (first | assumption | exact hT _ | ((with_reducible show wpAny _ _ (call (Value.builtin "tuple.__getattribute__") _ _) _ _ _);refine JL TR (hT _) am_entry_tuple_getattribute (F.args_tuple_getattribute_2 _ _) (Up a vs n _ sl) ⟨hx,hA,fun h' nz e eI=>?_⟩)|wp_step))
 obtain⟨t',u',he⟩:=eI.there
 show wpAny _ _ (getattributeRaised _ _ _ _ _ _ _) _ _ _
 unfold getattributeRaised
 repeat (any_goals (first | assumption | wp_step))
 exact h h' nz eI.keeps
end HT
namespace HT
open PySem PyProof.Rows PySem.W L2
section
variable {prog : Program} {w : World} {A : Around} {R : Result -> Shared -> Prop} {it t d : Addr} {vs : Array Value} {g : Heap}
theorem Ws {E:Value->Shared->Prop}{Q:Unit->Shared->Prop}{s:Shared}{T:Addr}{x y:Value}{k:Key}{kvs:List (Key×Value)}{i:Int} (hT:IsTup s.heap T #[x,y]) (hk:(du prog w).is k x=true) (hd:s.heap.DictOf (du prog w) d kvs) (new:k ∉ kvs.map (·.1)) (hz:kvs.length<=sizeLine)
  (q:∀h' tk,h'.DictOf (du prog w) d (kvs ++ [(k,y)])->Heap.SameBut d s.heap h'->Q () { s with heap:=h',toks:=tk }) :
  wpAny (model prog w) A (holding [Value.ref T] (do
   let pair <- (Builtin.Dict.pairItems (.ref T)).tryCatch fun e=>do
    if !(<- isInstance e (.type "TypeError")) then throw e
    rule "dict.update.element-no-sequence"
    raiseError "TypeError" s!"cannot convert dictionary update sequence element #{i} to a sequence"
   match pair with
   | [k,v]=>holding [k,v] (dictSet d k v)
   | l =>
    rule "dict.update.element-length"
    raiseError "ValueError" s!"dictionary update sequence element #{i} has length {l.length}; 2 is required")) Q E s:=by
 refine dX (af (wpAny_tryCatch ?_))
 unfold Builtin.Dict.pairItems
 refine af (x8 hT.typeIs ?_)
 rw[aA (by decide)]
 obtain⟨o,ho,_,n,Gx⟩:=hT
 refine af (JZ ho Gx (aB ?_))
 show wpAny _ _ (holding [x,y] (dictSet d x y)) _ _ _
 refine dX (wpAny_dictSet_pairs (hsz:=hz) hk hd fun h' dd sb=>?_)
 rw[stored_new new]at dd
 exact q h' _ dd sb
theorem Xw (hh:A.in1.handled=none) (Gy:d≠it) (ux:d≠t) (Qc:t≠it) (ps:List (Key×Value)) (nd:(ps.map (·.1)).Nodup) (hz:ps.length<=sizeLine) (hsz:vs.size=ps.length) (hv:IsTup g t vs)
  (Gz:∀ (i:Nat) p,ps[i]? = some p -> ∃a x,vs[i]? = some (.ref a)/\a≠it/\a≠d/\IsTup g a #[x,p.2]/\(du prog w).is p.1 x=true) :
  ∀ (m k:Nat) (s:Shared),ps.length - k=m->k<=ps.length->IsTupIter s.heap it t k->s.heap.DictOf (du prog w) d (ps.take k) ->
   (∀b o,b≠it->b≠d->g.get? b=some o->s.heap.get? b=some o) ->
   (∀h' tk,h'.DictOf (du prog w) d ps->(∀b o,b≠it->b≠d->g.get? b=some o->h'.get? b=some o)->R (.ok (.ret .none)) { s with heap:=h',toks:=tk }) ->
   codeAny (model prog w) A (.builtin "dict.update.loop" ⟨[.ref d,.ref it,rawInt k,.none],[]⟩) R s:=by
 have up:∀ {b:Addr}{us:Array Value}{h:Heap},b≠it->b≠d->(∀b o,b≠it->b≠d->g.get? b=some o->h.get? b=some o)->IsTup g b us->IsTup h b us:=fun n1 n2 kp ⟨o,ho,r⟩=>⟨o,kp _ _ n1 n2 ho,r⟩
 intro m
 induction m with
 | zero =>
  intro k s hm hk t1 dd kp hR
  have ek:k=ps.length:=by omega
  refine jh Lj (?_:wpAny _ _ _ _ _ _)
  rw[mh yw _]
  show wpAny _ A.in1 (pyNext (.ref it) >>= _) _ _ s
  refine af (next_tuple_end hh t1 (up Qc ux.symm kp hv) (by simp;omega) fun h' k'=>?_)
  refine af (m:=Builtin.Dict.addKeywords d []) (aB (aB ?_))
  have nB:h'.DictOf (du prog w) d (ps.take k):=dd.at fun o e=>k' d o Gy e
  rw[ek,d5]at nB
  exact hR h' s.toks nB fun b o a1 a2 e=>k' b o a1 (kp b o a1 a2 e)
 | succ m ih =>
  intro k s hm hk t1 dd kp hR
  have aS:k < ps.length:=by omega
  have hp:ps[k]? = some ps[k]:=br aS
  obtain⟨a,x,hva,zY,na2,Zj,lK⟩:=Gz k _ hp
  have tk1:ps.take (k+1)=ps.take k ++ [ps[k]]:=by rw[dz,hp];rfl
  have new:ps[k].1 ∉ (ps.take k).map (·.1):=fun w=>by
   have e:ps.map (·.1)=(ps.take k).map (·.1)++(ps.drop k).map (·.1):=by rw[<-bV,ak5]
   rw[e,lr]at nd
   refine nd.2.2 _ w _ ?_ rfl
   rw[AN aS]
   exact ba
  refine jh Lj (?_:wpAny _ _ _ _ _ _)
  rw[mh yw _]
  show wpAny _ A.in1 (pyNext (.ref it) >>= _) _ _ s
  refine af (next_tuple_item t1 (up Qc ux.symm kp hv) hva fun h' t1' sb=>?_)
  have uo:∀b o,b≠it->b≠d->g.get? b=some o->h'.get? b=some o:=fun b o a1 a2 e=>sb.extBut b o a1 (kp b o a1 a2 e)
  have nB:h'.DictOf (du prog w) d (ps.take k):=dd.at fun o e=>sb.extBut d o Gy e
  refine af (Ws (s:={ s with heap:=h' }) (k:=ps[k].1) (up zY na2 uo Zj) lK nB new (by rw[dq];omega) fun ir tk aaF Qd=>?_)
  rw[show((k:Int)+1)=((k+1:Nat):Int) from rfl]
  exact aB ⟨rF yw _,ih (k+1) _ (by omega) aS (t1'.extBut Qd.extBut Gy.symm) (by rw[tk1];exact aaF) (fun b o a1 a2 e=>Qd.extBut b o a2 (uo b o a1 a2 e)) hR⟩
theorem Ur {E:Value->Shared->Prop}{Q:Value->Shared->Prop}{s:Shared} (hh:A.handled=none) (ps:List (Key×Value)) (nd:(ps.map (·.1)).Nodup) (hz:ps.length<=sizeLine) (hsz:vs.size=ps.length) {n:Nat}{sl:Array (Option Value)}
  (hv:s.heap.get? t=some { cls:= .type "tuple", dict:=none,data:= .seq vs n,slots:=sl })
  (Gz:∀ (i:Nat) p,ps[i]? = some p -> ∃a x,vs[i]? = some (.ref a)/\IsTup s.heap a #[x,p.2]/\(du prog w).is p.1 x=true)
  (q:∀d h' tk,s.heap.objs.size<=d->h'.DictOf (du prog w) d ps->(∀b o,s.heap.get? b=some o->h'.get? b=some o)->Q (.ref d) { s with heap:=h',toks:=tk }) :
  wpAny (model prog w) A (call (.type "dict") [.ref t]) Q E s:=by
 refine callType_codes (Q₁:=fun obj aY=>obj = .ref s.heap.objs.size/\aY={ s with heap:=s.heap.push { cls:= .type "dict", data:= .dict #[] } }) F.kt_called_dict (F.kt_typeCall_dict_1 _) F.entry_dict_init (kt_code_dict_new _ ⟨rfl,rfl⟩) ?_
 rintro obj aY ⟨rfl,rfl⟩
 have dn:(s.heap.push { cls:= .type "dict", data:= .dict #[] }).DictOf (du prog w) s.heap.objs.size []:=Heap.DictOf.new s.heap
 have k2:∀b o,s.heap.get? b=some o->(s.heap.push { cls:= .type "dict", data:= .dict #[] }).get? b=some o:=fun b o e=>bj _ e
 generalize s.heap.push { cls:= .type "dict", data:= .dict #[] }=h2 at dn k2 ⊢
 refine⟨dn.typeIs,F.args_dict_init_2 _ _,?_⟩
 unfold Builtin.«dict.__init__»
 refine af ?_
 unfold Builtin.Dict.selfAndRest
 refine af (wpAny_notOrdered_dict dn.typeIs ?_)
 refine(aB ?_:wpAny _ _ (pure (s.heap.objs.size,[Value.ref t])) _ _ _)
 show wpAny _ _ (Builtin.Dict.updateFrom "dict.__init__" s.heap.objs.size (.ref t) [] .none) _ _ _
 unfold Builtin.Dict.updateFrom
 have v2:=k2 _ _ hv
 refine af (x8 (T:= "tuple") ⟨_,v2,rfl⟩ ?_)
 rw[aA (by decide)]
 refine af (Wr v2 hh fun h3 tk3 k3=>?_)
 rw[aA (by decide)]
 have it3:IsTup h3 t vs:=⟨_,k3 _ _ v2,rfl,n,rfl⟩
 refine af (nK (af (iter_tuple it3 ?_)))
 refine aB ⟨rF yw _,?_⟩
 have up:∀b o,s.heap.get? b=some o->h3.get? b=some o:=fun b o e=>k3 b o (k2 b o e)
 have zZ:s.heap.objs.size < h3.objs.size:=by
  obtain⟨o,_,_,ho,_⟩:=dn
  exact aU (k3 _ _ ho)
 have dd3:h3.DictOf (du prog w) s.heap.objs.size []:=dn.at fun o e=>k3 _ o e
 have lt:∀ {b:Addr}{o:Obj},s.heap.get? b=some o->b < s.heap.objs.size:=fun e=>aU e
 refine Xw (A:=A.in1) (g:=s.heap) (it:=h3.objs.size) hh (bh zZ) (uT (lt hv)) (bh (uW (lt hv) zZ)) ps nd hz hsz ⟨_,hv,rfl,n,rfl⟩ (fun i p hp=>?_) _ 0 _ rfl (a4 _) ⟨_,dj _ rfl,rfl,rfl⟩ (dd3.at fun o e=>bj _ e) (fun b o _ _ e=>bj _ (up b o e)) fun h' tk dd kp=>?_
 ·obtain⟨a,x,h1,Qe,h3'⟩:=Gz i p hp
  obtain⟨o,ho,_⟩:=id Qe
  exact⟨a,x,h1,bh (uW (lt ho) zZ),bh (lt ho),Qe,h3'⟩
 ·exact⟨rfl,q _ h' tk (aN _) dd fun b o e=>kp b o (bh (uW (lt e) zZ)) (bh (lt e)) e⟩
end
end HT
namespace L2
open PySem PySem.Spec PyProof.Rows PySem.W HT
section
variable {X : Cx}
theorem Lm:cA X (compareOp .LtE) (fun x y H Q=>∃i j,x = .str i/\y = .str j/\Q (.bl (!decide (j.cps.toList < i.cps.toList))) H):=by
 intro pins s σ H x y v u Q I rx ry ⟨i,j,ex,ey,q⟩
 subst ex ey
 obtain⟨t,rfl⟩:=rx
 obtain⟨t',rfl⟩:=ry
 exact P.le_str (cF I q rfl)
def lC (H:Hp) (vs:List V) (kvs:List (Str×V)):Prop:=Paired (fun y p=>∃a,y=V.ref a/\H a=some (.tup [.str p.1,p.2])) vs kvs
theorem lC.same {H H':Hp}{vs:List V}{kvs:List (Str×V)} (h:lC H vs kvs) (s:ak H H'):lC H' vs kvs:=Paired.imp' (fun _ _ ⟨a,e,q⟩=>⟨a,e,s _ _ q⟩) h
def qe (kvs:List (Str×V)):List (Key×V):=kvs.map fun p=>(Sum.inr p.1,p.2)
theorem Mx:∀ (kvs:List (Str×V)) (ys:List Value),ys.length=kvs.length->(∀ (i:Nat) (hi:i < kvs.length),∃y,ys[i]? = some y/\RelV kvs[i].2 y)->KV (qe kvs) ((kvs.map fun p=>(Sum.inr p.1:Key)).zip ys)
 | [],ys,h,_=>.nil
 | p::kvs,[],h,_=>by simp at h
 | p::kvs,y::ys,h,f=>by
  obtain⟨y',e,r⟩:=f 0 (by simp)
  obtain rfl:y=y':=by simpa using e
  exact .cons ⟨rfl,r⟩ (Mx kvs ys (by simpa using h) fun i hi=>by
   obtain⟨y2,e2,r2⟩:=f (i+1) (Nat.succ_lt_succ hi)
   exact⟨y2,by simpa using e2,r2⟩)
end
end L2
namespace L2
open PySem PySem.Spec PyProof.Rows PySem.W
structure gU (k:Nat) (A:Around):Prop where
 dp:A.depth+3 * k+5 < recursionLimit
 un:A.units+16 * k+200 < cLine
 gd:A.guards=some []
theorem aT.marked {k:Nat}{A:Around} (r:aT k A) (v:Option Value):gU k (A.mark v):=⟨r.dp,r.un,r.gd⟩
theorem gU.deeper {k:Nat}{A:Around} (r:gU (k+1) A) (env:Env):gU k (A.deeper env):=
 ⟨by have:=r.dp;show A.depth+1+3 * k+5 < _;omega,by have:=r.un;show A.units+3+16 * k+200 < _;omega,by first | exact r.gd | simp[Around.deeper,r.gd]⟩
theorem gU.make {k:Nat}{A:Around} (r:gU (k+1) A) (C:Addr) (us:List Value) (kw:List (Str×Value)):gU k (A.under (.builtin "type.__call__" ⟨.ref C::us,kw⟩)):=
 ⟨by have:=r.dp;rw[KH];omega,by have:=r.un;rw[KI];omega,Kt r.gd⟩
theorem gU.depth {k:Nat}{A:Around} (r:gU k A):A.depth < recursionLimit:=by have:=r.dp;omega
theorem gU.units {k:Nat}{A:Around} (r:gU k A):A.units+64 < cLine:=by have:=r.un;omega
def sT (P:Program) (w:World) (K:Frag) (mg:Str->Option Value) (base:Heap) (N:List Str) (qual:Str) (scope:Scope) (f:Addr) (cd:Value) (A:Around) (outer:List Env) (s:Shared) (H:Hp) (E:XK):Cx:=
 { i3 aL P w K mg base N qual scope f cd A outer s H E with calm:=false }
structure sU (P:Program) (w:World) (K:Frag) (mg:Str->Option Value) (base:Heap) (k:Nat) (f:Addr) (fd:FuncData) (ps:List Str) (sp:Option Value->Sp):Prop where
 len:∀x vs H Q E,sp x vs H Q E->vs.length=ps.length
 run:∀ (A:Around) (outer:List Env) (s:Shared) (H:Hp) (args:Args) (us:List Value) (vs:List V) (Q:VK) (E:XK),gU k A->m5 P w K mg base A outer s H->BindsTo s fd args (ps.zip us)->Vals vs us->sp A.handled vs H Q E ->
  codeAny (model P w) A (.call (.ref f) args) (CR aL outer P w H s Q E) s
abbrev vR (P:Program) (w:World) (K:Frag) (mg:Str->Option Value) (base:Heap) (k:Nat) (f:Addr) (fd:FuncData) (ps:List Str) (sp:Sp):Prop:=sU P w K mg base k f fd ps fun _=>sp
section
variable {P : Program} {w : World} {K : Frag} {mg : Str -> Option Value} {base : Heap} {N : List Str} {qual : Str} {f : Addr}
theorem U8 {scope:Scope}{cd:Value}{A:Around}{outer:List Env}{s s1:Shared}{H H1:Hp}{E:XK}{pins:List (Addr×Obj)}{σ:St}
  (I:Inv (i3 aL P w K mg base N qual scope f cd { A with handled:=none } outer s H E) pins σ H1 s1):Inv (sT P w K mg base N qual scope f cd A outer s H E) pins σ H1 s1:=
 ⟨⟨I.ok.mod,I.ok.kind,I.ok.glob,I.ok.blt,I.ok.above,I.ok.inj,I.ok.has,I.ok.m9,(fun z=>Bool.noConfusion (show false=true from z)),I.ok.frames,I.ok.kJ,I.ok.lO,I.ok.bs,I.ok.jB,I.ok.m4,I.ok.lI,I.ok.fg,I.ok.jW⟩,I.os,I.bare,I.base,I.loc,I.cell,I.free,I.gT,I.pin,I.ar,I.len⟩
theorem aZ.Qf {x:Str}{st:Stmt}{fd:FuncData}{ps:List Str}{k:Nat}{sp:Option Value->Sp} (F:aZ K x qual st f fd) (S:bZ N ps (ay st)) (len:∀x vs H Q E,sp x vs H Q E->vs.length=ps.length)
  (mU:∀ (cdv:Value) (A:Around) (outer:List Env) (s:Shared) (H:Hp) (vs:List V) (Q:VK) (E:XK),gU k (A.deeper (envOfC qual (ay st) s.heap.objs.size f cdv))->sp A.handled vs H Q E ->
   ∃t,gg (sT P w K mg base N qual (ay st) f cdv A outer s H E) (aQ st) t/\t { nx:=fun _ H'=>Q .aD H',rt:=Q } (start N vs) H):sU P w K mg base (k+1) f fd ps sp:=by
 obtain⟨oc,od,kV,doc,pm,an,cdv,ct,lR,rfl,lk,fq⟩:=F.ex
 refine⟨len,fun A outer s H args us vs Q E hr e0 hb r jC=>?_⟩
 have hl:=len _ _ _ _ _ jC
 have KX:K.In s.heap:=e0.mod.iM.keeps fun b o e=>(e0.bs b o e).1
 have lim:s.heap.NoLimit:=e0.mod.nolimit.keeps fun b o e=>(e0.bs b o e).1
 have CB:∀y∈ps.zip us,(ay st).names.lookup y.1=some .local\/((ay st).names.lookup y.1=some .cell/\((cellsFrom (s.heap.objs.size+1) (ay st).names []).lookup y.1).isSome=true):=fun⟨n,v⟩ hy=>by
  rcases S.par n (JH hy).1 with q | q
  ·exact .inl q
  ·exact .inr ⟨q,Tg _ _ _ (.inl q)⟩
 refine codeAny_call_function hr.depth (KX _ _ lk) rfl S.co S.gen rfl (PySem.W.codeRec_of KX fq) (hb _ _ _ _ ?_)
 refine akK S.kind CB fun env he s1 x=>?_
 subst he
 refine⟨lim.keeps x.toInCall.keep,codeAny_func ?_⟩
 obtain⟨t,ht,hq⟩:=mU cdv A outer s H vs Q E (hr.deeper _) jC
 have e0':m5 P w K mg base { A with handled:=none } outer s H:=⟨e0.frames,e0.mod,e0.bs,e0.jB,e0.fg,e0.jW,e0.ar,e0.bare⟩
 have I:Inv (sT P w K mg base N qual (ay st) f cdv A outer s H E) [] (start N vs) H s1:=U8 (La S rfl e0' hl r x)
 refine md (ht [] s1 (start N vs) H _ I hq) (fun fl s' hs=>?_) fun e s' hs=>hs
 have fin:∀ {aH:St}{H':Hp}{v:V}{u:Value},Inv (sT P w K mg base N qual (ay st) f cdv A outer s H E) [] aH H' s'->RelV v u->Q v H'->CE outer P w H s Q u s':=
  fun {aH H' v u} J rv q=>⟨v,H',J.os,J.bare,J.base,J.ar,rv,q⟩
 cases fl with
 | ret u =>
  obtain⟨v,aH,H',J,rv,q⟩:=hs
  exact fin J rv q
 | next =>
  obtain⟨aH,H',J,q⟩:=hs
  exact fin (v:=V.aD) (u:=Value.none) J rfl q
 | brk =>
  obtain⟨_,_,_,q⟩:=hs
  exact False.elim q
 | cont =>
  obtain⟨_,_,_,q⟩:=hs
  exact False.elim q
theorem aZ.okH {x:Str}{st:Stmt}{fd:FuncData}{ps:List Str}{k:Nat}{sp:Sp} (F:aZ K x qual st f fd) (S:bZ N ps (ay st)) (len:∀vs H Q E,sp vs H Q E->vs.length=ps.length)
  (mU:∀ (cdv:Value) (A:Around) (outer:List Env) (s:Shared) (H:Hp) (vs:List V) (Q:VK) (E:XK),gU k (A.deeper (envOfC qual (ay st) s.heap.objs.size f cdv))->sp vs H Q E ->
   ∃t,gg (sT P w K mg base N qual (ay st) f cdv A outer s H E) (aQ st) t/\t { nx:=fun _ H'=>Q .aD H',rt:=Q } (start N vs) H):vR P w K mg base (k+1) f fd ps sp:=F.Qf S (fun _=>len) mU
end
section
variable {X : Cx} {pins : List (Addr × Obj)} {σ : St} {H : Hp} {s : Shared} {C fI : Addr} {us : List Value} {vs : List V} {Q : VK} {k : Nat} {fd : FuncData} {ps : List Str} {sp : Sp} {E : XK} {x : Str} {p pos : Pos} {e : Expr} {es : List Expr} {t : TA}
theorem Wt (q:dI X.K C (some (.ref fI))=true) (fn:isFn X.K (.ref fI)=true) (F:vR X.prog X.w X.K X.mg X.base k fI fd ps sp) (hr:gU (k+1) X.A) (hb:Binds X.K fd ps []) (hx:Passes aL X E) (I:Inv X pins σ H s) (r:Vals vs us) (bb:us.length<=100)
  (h:∀e,H e=none->sp (.ref e::vs) (upd H e (bJ C none e)) (fun v H2=>v = .aD/\Q (.ref e) H2) E):wpAny (model X.prog X.w) X.A (call (.ref C) us) (EP X pins σ Q) X.xe s:=by
 obtain⟨⟨up,N,nm,qn,bs,hd,sn,sb,ab,col,od,a0,a1,a2,a3,a5,mN,at_,ns,ni,T⟩⟩:=pU I.a7 q
 obtain⟨oI,lk,oc⟩:=iS.mp (show(X.K.lookup fI).map (·.cls)=some (.type "function") from cS.mp fn)
 have h1:=h (s.heap.objs.size+1) (I.ar.fresh (nN _))
 have a7:=I.a7
 have I2:Inv X pins σ (upd H (s.heap.objs.size+1) (bJ C none (s.heap.objs.size+1))) { s with heap:=jT s.heap C us }:=I.put (fun _ _ z=>rQ z) (uQ (nN _)) (vq Bv)
 have e0:=I2.vW.make C us []
 have um:=hr.make C us []
 have r2:Vals (V.ref (s.heap.objs.size+1)::vs) (Value.ref (s.heap.objs.size+1)::us):= .cons rfl r
 have hl:(Value.ref (s.heap.objs.size+1)::us).length=ps.length:=by rw[<-r2.length];exact F.len none _ _ _ _ h1
 have oU:=hb { s with heap:=jT s.heap C us } (Value.ref (s.heap.objs.size+1)::us) I2.a7 (by rw[eV];exact hl)
 rw[eV]at oU
 have run:=F.run _ X.stack _ _ ⟨Value.ref (s.heap.objs.size+1)::us,[]⟩ (Value.ref (s.heap.objs.size+1)::us) _ _ E um e0 oU r2 h1
 obtain⟨hp,g,d,tk,os⟩:=s
 refine Kj JR T at_ ns ni (a7 _ _ lk) oc (by rw[aI];omega) (nL (pH run fun r s' hq=>?_))
 cases r with
 | error e=>exact hx pins σ _ _ e s' I2 hq
 | ok fl =>
  cases fl with
  | ret u =>
   obtain⟨v,H',I3,rv,ev,q3⟩:=I2.after hq
   subst ev
   exact⟨rv,.ref (hp.objs.size+1),H',I3,rfl,q3⟩
  | next=>exact False.elim hq
  | brk=>exact False.elim hq
  | cont=>exact False.elim hq
theorem Xx (q:dI X.K C (some (.ref fI))=true) (fn:isFn X.K (.ref fI)=true) (kp:keepIn X.K (.ref C)=true) (F:vR X.prog X.w X.K X.mg X.base k fI fd ps sp) (hr:gU (k+1) X.A) (hb:Binds X.K fd ps []) (hx:Passes aL X E)
  (hg:Gl X x) (hm:X.mg x=some (.ref C)) (ha:PA X (e::es) t) (gY:(x==("__debug__" : Str))=false:=by decide)
  (he:starEach (e::es) X.env=(false,eval e X.env)::starEach es X.env:=by rfl) (cB:(backTo pos (starEach es X.env)).any (·.1)=false:=by rfl):PE X (.Call (.Name x p) (e::es) [] pos) (Np C sp E t):=by
 intro pins s σ H Q I h
 refine pI (ly I hg hm ?_ gY)
 refine AK (h₀:=X.base) I.ok.mod.iM kp (au (ha pos pins s σ H _ I h) fun us s1 ⟨vs,H1,I1,r,bb,q1⟩=>⟨I1.a7,?_⟩) he cB
 exact Wt q fn F hr hb hx I1 r (by show us.length<=100;rw[<-r.length];exact bb) q1
end
end L2
namespace L2
open PySem PySem.W PySem.Calls PyProof.Rows
section
variable {α β : Type} {n : Nat}
def Pm (n:Nat) (p:Array Nat):Prop:=p.toList.Perm (List.range n)
theorem Pm.lt {p:Array Nat} (h:Pm n p) (hn:0 < n) (i:Nat):p.getD i 0 < n:=by
 rw[mi]
 cases e:p[i]? with
 | none=>exact hn
 | some x =>
  have:x∈p.toList:=Array.mem_def.mp (ak6 e)
  exact l8.mp (h.mem_iff.mp this)
theorem Pm.rev {p:Array Nat} (h:Pm n p) (i j:Nat):Pm n (kas_rev p i j):=(ak7.mp (mirror_perm p i j _)).trans h
theorem Pm.Qg {p:Array Nat} (h:Pm n p) (i j:Nat):Pm n (bubble p i j):=(ak7.mp (bubble_perm p i j)).trans h
theorem yQ {γ:Type}{p:Array Nat}{vs:List γ} (d:γ) (h:Pm vs.length p):(p.toList.map fun i=>vs.getD i d).Perm vs:=by
 have h1:=List.Perm.map (fun i=>vs.getD i d) h
 refine h1.trans (List.Perm.of_eq ?_)
 apply TV
 ·simp
 ·intro i h1 h2
  simp[List.getD,h2]
end
theorem Ky {α β:Type}{F:α->β->Prop}{l l':List α} (h:l'.Perm l):∀ {m:List β},Paired F l m -> ∃m',m'.Perm m/\Paired F l' m':=by
 induction h with
 | nil=>intro m p;exact⟨m,.refl _,p⟩
 | cons x _ ih =>
  intro m p
  cases p with
  | cons q t =>
   obtain⟨m',e,r⟩:=ih t
   exact⟨_::m',e.cons _,.cons q r⟩
 | swap x y l =>
  intro m p
  cases p with
  | cons q t =>
   cases t with
   | cons q2 t=>exact⟨_,List.Perm.swap _ _ _,.cons q2 (.cons q t)⟩
 | trans _ _ ih1 ih2 =>
  intro m p
  obtain⟨m2,e2,p2⟩:=ih2 p
  obtain⟨m1,e1,p1⟩:=ih1 p2
  exact⟨m1,e1.trans e2,p1⟩
theorem U9 {prog:Program}{w:World}{A:Around}{E:Value->Shared->Prop}{s:Shared}{a:Addr}{Q:Bool->Shared->Prop} (h:Q true s):wpAny (model prog w) A (eqBool (.ref a) (.ref a)) Q E s:=by
 unfold eqBool
 refine dX ?_
 have:((Value.ref a)==(Value.ref a))=true:=by simp
 rw[aA this]
 exact af (nK (aB h))
section
variable {X : Cx}
theorem YA {P:Program}{w:World}{H:Hp}{h:Heap}{a:Addr}{o:HO} (x:bt P w H h a o):∃q,h.get? a=some q:=by
 cases o with
 | lst xs=>obtain⟨_,_,_,_,e⟩:=x;exact⟨_,e⟩
 | tup xs=>obtain⟨_,_,_,q,e,_⟩:=x;exact⟨q,e⟩
 | dK kvs=>obtain⟨_,_,_,_,o,_,_,e,_⟩:=x;exact⟨o,e⟩
 | dT kvs=>obtain⟨_,_,_,_,o,_,_,e,_⟩:=x;exact⟨o,e⟩
 | set S n=>obtain⟨o,_,_,_,e,_⟩:=x;exact⟨o,e⟩
 | ins C dx fs=>obtain⟨_,_,_,e,_⟩:=x;exact⟨_,e⟩
 | own y=>exact x
 | xd fs=>obtain⟨_,⟨o,_,_,e,_⟩,_⟩:=x;exact⟨o,e⟩
 | wH lo hi=>obtain⟨_,_,_,e⟩:=x;exact⟨_,e⟩
 | ip q u=>exact⟨q,x.1⟩
 | m8 ps=>exact⟨_,x⟩
 | met f y=>exact⟨_,x⟩
 | ext φ=>exact x.2.1
theorem Inv.sorted {pins:List (Addr×Obj)}{σ:List (Option V)}{H:Hp}{s:Shared}{h':Heap}{m:Str->Option Value}{D:Addr}{ys:List V}{out:List Value}{c:Nat}{t':Nat} (I:Inv X pins σ H s) (hm:s.heap.Ns X.env.locals m) (gZ:h'.Ns X.env.locals m)
  (k:∀b o,b≠X.env.locals->s.heap.get? b=some o->h'.get? b=some o) (hD:∀b o,s.heap.get? b=some o->b≠D) (new:h'.get? D=some (listOf out.toArray c)) (r:Vals ys out) (hz:ys.length<=sizeLine) :
  H D=none/\Inv X pins σ (upd H D (.lst ys)) { s with heap:=h',toks:=t' }:=by
 have there:∀b u,H b=some u -> ∃o,s.heap.get? b=some o:=fun b u e=>YA (I.ar b u e)
 have hn:H D=none:=by
  cases q:H D with
  | none=>rfl
  | some u =>
   obtain⟨o,e⟩:=there D u q
   exact absurd rfl (hD D o e)
 have xi:∀b u,H b=some u->b≠D:=fun b u e z=>by rw[z,hn]at e;cases e
 have wK:∀b u,H b=some u->b≠X.env.locals:=fun b u e z=>by rw[z,I.free]at e;cases e
 refine⟨hn,I.step (g':=s.gens) (d':=s.drawn) (ch:= []) (fun _ z=>nomatch z) (fun b o hL _ _ e _=>k b o hL e) (fun b o hL _ _ e _=>⟨o.slots,k b o hL e⟩) (fun b o _ e n=>by rw[ah (hD b o e)];exact n) (fun b o _ e=>?_)
  (fun b xs e=>by rw[ah (xi b _ e)];exact e) (fun b o u e=>by rw[ah (xi b _ e)];exact e) (fun b ps e=>⟨#[],by rw[ah (xi b _ e),e];simp⟩) (fun m' q=>?_) (fun b u e=>?_) I.bare⟩
 ·by_cases hb:b=X.env.locals
  ·obtain⟨o',es,ep,ho,_⟩:=gZ
   exact⟨o',by rw[hb];exact ho⟩
  ·exact⟨o,k b o hb e⟩
 ·obtain⟨o,es,ep,ho,hd,hs,hf⟩:=hm
  obtain⟨o2,GJ,ep2,jD,hd2,xj,lb⟩:=q
  rw[ho]at jD;cases jD
  rw[hd]at hd2;cases hd2
  have:m'=m:=funext fun x=>(lb x).symm.trans (hf x)
  rw[this];exact gZ
 ·by_cases hb:b=D
  ·subst hb
   rw[ag]at e;cases e
   exact⟨hz,out,c,r,new⟩
  ·rw[ah hb]at e
   refine(I.ar b u e).f' (fun a v hc q=>k a v ?_ q) (fun a q=>by rw[ah (xi a _ q)];exact q) fun a xs q=>by rw[ah (xi a _ q)];exact q
   rcases hc with z | z
   ·rw[z];exact wK b u e
   ·exact wK a _ z
theorem Lo {P:Program}{w:World}{B:Around}{E:Value->Shared->Prop}{s:Shared}{a:Addr}{us:List Value}{n:Nat}{R:PySem.Fin->Shared->Prop} (at_:s.heap.get? a=some (seqObj "list" us.toArray n)) (bb:us.length < 2)
  (k:∀c g,(∀b o,b≠a->s.heap.get? b=some o->g.get? b=some o)->g.get? a=some (listOf us.toArray c)->R (.done (.ret .none)) { s with heap:=g }):wpAny (model P w) B (Builtin.«list.sort» ⟨[.ref a],[]⟩) R E s:=by
 obtain⟨ep,gone⟩:∃ep,(s.heap.update a (Obj.mapSeq fun _=>(#[]:Array Value))).get? a=some (seqObj "list" #[] ep):=⟨_,get?_update_seq at_ fun _=>#[]⟩
 have fits:us.toArray.size<=sizeLine:=by rw[aI,cL];omega
 have small:us.toArray.size < 2:=by simpa using bb
 rw[list_sort_plain]
 refine af (listItems_at at_ rfl (af (listUpdate_at at_ rfl (af (seqEpoch_at gone rfl (af (wpAny_newTuple (af (yf (dX ?_) (a4 _))) (by simpa using fits))))) fits (a4 _))))
 have two:∀b o,(s.heap.update a (Obj.mapSeq fun _=>(#[]:Array Value))).get? b=some o->(((s.heap.update a (Obj.mapSeq fun _=>(#[]:Array Value))).push (seqObj "tuple" us.toArray 0)).push (seqObj "list" #[] 0)).get? b=some o:=fun b o q=>bj _ (bj _ q)
 change wpAny (model P w) B _ R E { s with heap:=((s.heap.update a (Obj.mapSeq fun _=>(#[]:Array Value))).push (seqObj "tuple" us.toArray 0)).push (seqObj "list" #[] 0) }
 have yW:=two _ _ gone
 have others:∀b o,b≠a->s.heap.get? b=some o->(((s.heap.update a (Obj.mapSeq fun _=>(#[]:Array Value))).push (seqObj "tuple" us.toArray 0)).push (seqObj "list" #[] 0)).get? b=some o:=fun b o nb q=>two b o (((J0 s.heap a _).2 b nb).trans q)
 generalize (((s.heap.update a (Obj.mapSeq fun _=>(#[]:Array Value))).push (seqObj "tuple" us.toArray 0)).push (seqObj "list" #[] 0))=g at yW others ⊢
 dsimp only
 rw[aA small,aA small]
 refine af (aB (af (aB ?_)))
 have same:(arrOf (SortSt.mk' general' (us.toArray.zip us.toArray) #[] 7 none)).map (·.2)=us.toArray:=JU.mp (by show((us.toArray.zip us.toArray).map (·.2)).toList=_;simp[List.map_snd_zip])
 dsimp only
 rw[same]
 refine af (seqEpoch_at yW rfl (af (listUpdate_at yW rfl ?_ (a4 _) (Nat.le_succ_of_le fits))))
 obtain⟨c,back⟩:∃c,(g.update a (Obj.mapSeq fun _=>us.toArray)).get? a=some (seqObj "list" us.toArray c):=⟨_,get?_update_seq yW fun _=>us.toArray⟩
 simp only[bne_self_eq_false,uU,AG]
 exact aB (k c _ (fun b o nb q=>((J0 g a _).2 b nb).trans (others b o nb q)) back)
theorem Uy {P:Program}{w:World}{B:Around}{E:Value->Shared->Prop}{s:Shared}{l:Addr}{us:List Value}{R:Value->Shared->Prop} (at_:s.heap.IsList l us.toArray) (bb:us.length < 2)
  (k:∀D c g,(∀b o,s.heap.get? b=some o->g.get? b=some o)->(∀b o,s.heap.get? b=some o->b≠D)->g.get? D=some (listOf us.toArray c)->R (.ref D) { s with heap:=g }):wpAny (model P w) B (call (.builtin "sorted") [.ref l]) R E s:=by
 have fits:us.length<=sizeLine:=by rw[aI];omega
 refine TY kind_sorted plain_sorted entry_sorted (args_sorted1 _) (af (m:=checkCount "sorted" 1 1 _) (aB (af (collect_list at_ (af (yf ?_ fits)) (by simpa using fits)))))
 have size:((s.heap.push (seqObj "list" #[] 0)).update s.heap.objs.size (Obj.mapSeq fun x=>x++us.toArray)).objs.size=s.heap.objs.size+1:=(Heap.size_update ..).trans (size_push' ..)
 have f':∀b o,s.heap.get? b=some o->b≠s.heap.objs.size+1/\((s.heap.push (seqObj "list" #[] 0)).update s.heap.objs.size (Obj.mapSeq fun x=>x++us.toArray)).get? b=some o:=fun b o q =>
  have lt:b < s.heap.objs.size:=aU q
  ⟨bh (J1 lt),(Heap.get?_update_ne _ _ _ _ (bh lt)).trans ((Heap.get?_push_ne _ _ _ (bh lt)).trans q)⟩
 change wpAny (model P w) _ _ _ E { s with heap:=((s.heap.push (seqObj "list" #[] 0)).update s.heap.objs.size (Obj.mapSeq fun x=>x++us.toArray)).push (seqObj "list" us.toArray 0) }
 have here:(((s.heap.push (seqObj "list" #[] 0)).update s.heap.objs.size (Obj.mapSeq fun x=>x++us.toArray)).push (seqObj "list" us.toArray 0)).get? (s.heap.objs.size+1)=some (seqObj "list" us.toArray 0):=size ▸ dj _ rfl
 rw[size]
 generalize (s.heap.push (seqObj "list" #[] 0)).update s.heap.objs.size (Obj.mapSeq fun x=>x++us.toArray)=g at here f' ⊢
 refine af (dX (yg slot_list_sort ⟨_,here,rfl⟩ entry_list_sort (Lo (s:={ s with heap:=g.push (seqObj "list" us.toArray 0) }) here bb fun c g2 kp new=>?_) (args_list_sort _)))
 exact⟨_,rfl,aB ⟨_,rfl,k _ c g2 (fun b o q=>kp b o (f' b o q).1 (bj _ (f' b o q).2)) (fun b o q=>(f' b o q).1) new⟩⟩
theorem My {h:Heap}:∀ {vs:List Value},(∀v∈vs,∃a k t z,v = .ref a/\IsTup h a #[.str k t,.ref z]) -> ∃fs,fs.length=vs.length/\KatTups h vs fs /\ ∀f∈fs,∃k t,f=Value.str k t
 | [],_=>⟨[],rfl,.nil,by simp⟩
 | v::vs,g=>by
  obtain⟨fs,h1,h2,h3⟩:=My (vs:=vs) fun x hx=>g x (bU _ hx)
  obtain⟨a,k,t,z,rfl,o,ho,hc,n,hd⟩:=g v ba
  refine⟨.str k t::fs,by rw[dZ,dZ,h1],.cons ho hc hd rfl h2,fun f hf=>?_⟩
  rcases bq.mp hf with rfl | hf
  ·exact⟨k,t,rfl⟩
  ·exact h3 f hf
theorem By {γ:Type}{f:γ->V}{g:γ->Value} (h:∀x,RelV (f x) (g x)):∀l:List γ,Vals (l.map f) (l.map g)
 | []=>.nil
 | x::l=>.cons (h x) (By h l)
end
end L2
namespace L2
open PySem PySem.W PySem.Spec PyProof.Rows
end L2
namespace L2
open PySem PySem.W PySem.Spec PyProof.Rows
def Qh (a b:Str):Prop:=a.cps.toList<=b.cps.toList
theorem Wu {a b:Str} (h1:Qh a b) (h2:Qh b a):a=b:=by
 have e:a.cps.toList=b.cps.toList:=List.le_antisymm h1 h2
 cases a;cases b
 exact eT Str.mk (JU.mp e)
theorem Bz:∀ {us:List Value}{ss:List Str},StrsAre us ss->Vals (ss.map V.str) us
 | _,_,.nil=>.nil
 | _,_,.cons _ t r=>.cons ⟨t,rfl⟩ (Bz r)
section
variable {X : Cx}
theorem Uz:df X (.builtin "sorted") (fun xs H Q=>∃p ss,xs = [.ref p]/\aj X.K H p (ss.map V.str)/\ss.length<=63 /\ ∀D iu,H D=none->iu.Perm ss->sortedS iu=true->Q (.ref D) (upd H D (.lst (iu.map V.str)))):=by
 intro pins s σ H xs us Q I r ⟨p,ss,ex,hq,qV,q⟩
 subst ex
 obtain⟨u,rfl,rx⟩:=vals1 r
 cases rx
 obtain⟨its,rv,pl,hz⟩:=I.list hq
 have hl:=rv.length
 rw[aE]at hl
 obtain⟨m,hm,_⟩:=id I.loc
 obtain⟨g0,xk,j0⟩:∃g0:Heap,g0.objs.size=0 /\ ∀b,g0.get? b=none:=⟨{ s.heap with objs:= #[] },rfl,fun b=>uQ (a4 _)⟩
 have F:Fr g0 X.env.locals s.heap m:=⟨hm,fun b o e=>(by rw[j0]at e;cases e),by rw[xk];exact a4 _⟩
 refine sorted_N_str F (BJ (g:=g0) (L:=X.env.locals)) pl.isList (yq rv) (by omega) fun h' vs' iu e F' N' hS' lU i'=>?_
 obtain⟨hn,I'⟩:=Inv.sorted (t':=s.toks) (ys:=iu.map V.str) I hm F'.ns (fun b o n e=>(N' (b,o) (bU _ (rP n (j0 b) e))).1) (fun b o e=>bh (J1 (aU e))) (N' _ ba).1 (Bz hS') (by rw[aE,lU.length_eq,aI];omega)
 exact⟨.ref _,_,I',rfl,q _ iu hn lU i'⟩
end
end L2
namespace HS
open PySem PySem.Spec PyProof.Rows
theorem Xy (t:SetTable) (es:Array (Int×Value)) (z:Int) (x:Value):(layNew t es z x).2.1.led=t.led:=by
 unfold layNew
 split
 ·dsimp only
  unfold SetTable.orStandIn
  split <;> rfl
 ·rfl
theorem U' {t u:SetTable}{zs:Array Int}{n:Nat}{ord:Array Nat} (e:t.relaid zs n=some (u,ord)):u.led=t.led/\u.plain=t.plain:=by
 unfold SetTable.relaid SetTable.laid at e
 cases c:SetTable.layClean (SetTable.sizeAbove n - 1) zs with
 | none=>rw[c]at e;cases e
 | some ow =>
  rw[c]at e
  have e2:=gF e
  have e3:=eT Prod.fst e2
  dsimp only at e3
  rw[<-e3]
  exact⟨rfl,rfl⟩
theorem UO (t:SetTable) (es:Array (Int×Value)) (n:Nat):(relayAll t es n).2.1.led=t.led/\(t.plain=false->(relayAll t es n).2.1.plain=false):=by
 unfold relayAll
 split
 ·rename_i u ord e
  obtain⟨h1,h2⟩:=U' e
  dsimp only
  split
  ·exact⟨h1,fun z=>h2.trans z⟩
  ·exact⟨rfl,fun _=>rfl⟩
 ·exact⟨rfl,fun _=>rfl⟩
def i4 (P:Program) (w:World) (h:Heap) (a:Addr) (xs:List Str):Prop:=
 ∃o es ep t,h.get? a=some o/\o.ExactSet/\o.data = .set es ep t/\ElemsOf (strKind P w) es.toList/\(∀k,k∈xs ↔ ∃e∈es.toList,(strKind P w).is k e.2=true) /\
  es.size < scanBound/\t.fits es.size=true/\es.size=xs.length/\t.led=(!w.params.followText "set-order")/\(es.size≠0->t.plain=false)
theorem i4.keep {P:Program}{w:World}{h h':Heap}{a:Addr}{xs:List Str} (x:i4 P w h a xs) (k:∀o,h.get? a=some o->h'.get? a=some o):i4 P w h' a xs:=let ⟨o,es,ep,t,e,r⟩:=x;⟨o,es,ep,t,k o e,r⟩
theorem Wv {P:Program}{w:World}{h:Heap}{a:Addr} (e:h.get? a=some { cls:= .type "set", dict:=none,data:= .set #[] 0 (.fresh 0 0 (!w.params.followText "set-order")) }):i4 P w h a []:=
 ⟨_,#[],0,_,e,⟨rfl,rfl,rfl⟩,rfl,fun z hz=>(by simp at hz),fun k=>(by simp),by decide,by rfl,rfl,rfl,fun z=>absurd rfl z⟩
def iJ (xs:List Str) (k:Str):List Str:=if k∈xs then xs else xs ++ [k]
section
variable {P : Program} {w : World} {A : Around} {E : Value -> Shared -> Prop} {s : Shared} {a : Addr} {xs : List Str}
theorem LW {h:Heap}{o:Obj}{es gK:Array (Int×Value)}{ep:Nat}{t t':SetTable}{ys:List Str} (ho:h.get? a=some o) (hx:o.ExactSet) (hd:o.data = .set es ep t) (qW:ElemsOf (strKind P w) gK.toList)
  (hm:∀k,k∈ys ↔ ∃e∈gK.toList,(strKind P w).is k e.2=true) (hb:gK.size < scanBound) (hf:t'.fits gK.size=true) (hn:gK.size=ys.length) (hl:t'.led=(!w.params.followText "set-order")) (hp:t'.plain=false) :
  (h.update a (Obj.putSet gK t')).get? a=some { o with data:= .set gK (ep+1) t' }/\i4 P w (h.update a (Obj.putSet gK t')) a ys:=by
 have hg:(h.update a (Obj.putSet gK t')).get? a=some { o with data:= .set gK (ep+1) t' }:=by
  have z:=pJ (Obj.putSet gK t') ho (by rw[putSet_of gK t' hd];rfl)
  rw[putSet_of gK t' hd]at z;exact z
 exact⟨hg,_,gK,ep+1,t',hg,hx,rfl,qW,hm,hb,hf,hn,hl,fun _=>hp⟩
theorem Ww {k:Str}{tk:Tok}{Q:Bool->Shared->Prop} (hS:i4 P w s.heap a xs) (room:xs.length+1 < scanBound) (h:∀h',Heap.SameBut a s.heap h'->i4 P w h' a (iJ xs k) -> ∀b,Q b { s with heap:=h' }) :
  wpAny (model P w) A (setAddHashed a (.str k tk) (hashStr w k)) Q E s:=by
 obtain⟨o,es,ep,t,ho,hex,hd,qW,oH,hb,hf,hn,Di,cB⟩:=hS
 have lK:(strKind P w).is k (.str k tk)=true:=by show Value.isStrOf k (.str k tk)=true;simp[Value.isStrOf]
 have GU:(Value.str k tk).scannable=true:=rfl
 have alD:es.size+1 < scanBound:=by omega
 unfold setAddHashed setAddHashedIn
 refine dX (af (wpAny_setState_of ho hd hf ?_));dsimp only
 rw[byScan_of (knd:=strKind P w) GU hb qW,aA rfl]
 refine af ?_;unfold setAddByScan
 refine af (nK (af (wpAny_setScan_of (knd:=strKind P w) (k:=k) lK ho hd hf qW ?_)))
 cases hr:List.findIdx? (fun e=>(strKind P w).is k e.2) es.toList with
 | some j =>
  obtain⟨hj,z4,_⟩:=List.findIdx?_eq_some_iff_getElem.mp hr
  have hk:k∈xs:=(oH k).mpr ⟨es.toList[j],iT hj,z4⟩
  refine aB (aB ?_)
  have e0:s={ s with heap:=s.heap }:=by cases s;rfl
  rw[e0]
  refine h s.heap (Heap.SameBut.refl a s.heap) ?_ _
  unfold iJ;rw[aA hk]
  exact⟨o,es,ep,t,ho,hex,hd,qW,oH,hb,hf,hn,Di,cB⟩
 | none =>
  dsimp only
  have hk:k ∉ xs:=fun z=>by
   obtain⟨e,he,hp⟩:=(oH k).mp z
   have:=List.findIdx?_eq_none_iff.mp hr e he
   rw[hp]at this;cases this
  have gw:∀ (b:Bool) {aY:Shared}{Q':Unit->Shared->Prop},Q' () aY->wpAny (model P w) A (match b with | true=>rule "set.scan.the-table-gave-way" | false=>pure ()) Q' E aY:=fun b aY Q' hq=>by
   cases b
   ·exact aB hq
   ·exact nK hq
  have gr:=layNew_perm t es ((strKind P w).hash k) (.str k tk)
  have yX:=layNew_fits t es ((strKind P w).hash k) (.str k tk)
  have vY:=Xy t es ((strKind P w).hash k) (.str k tk)
  generalize hL:layNew t es (hashStr w k) (.str k tk)=L
  rw[show(strKind P w).hash k=hashStr w k from rfl,hL]at gr yX vY
  obtain⟨eX,t1,wd,alK⟩:=L
  dsimp only at gr yX vY ⊢
  rw[Array.toList_push]at gr
  have Of:ElemsOf (strKind P w) eX.toList:=(qW.push (k:=k) lK GU).perm gr
  have alL:eX.size=es.size+1:=by rw[<-uR,gr.length_eq,c9,uR];rfl
  have Nv:∀k',k'∈iJ xs k ↔ ∃e∈eX.toList,(strKind P w).is k' e.2=true:=fun k'=>by
   unfold iJ;rw[aq hk,dk,eN,oH k']
   constructor
   ·rintro(⟨e,he,hp⟩|rfl)
    ·exact⟨e,gr.mem_iff.mpr (jf _ he),hp⟩
    ·exact⟨_,gr.mem_iff.mpr (eU _ (eN.mpr rfl)),lK⟩
   ·rintro⟨e,he,hp⟩
    rcases dk.mp (gr.mem_iff.mp he) with he | he
    ·exact .inl ⟨e,he,hp⟩
    ·rw[eN]at he;subst he
     exact .inr ((strKind P w).inj _ k' k hp lK)
  have hln:eX.size=(iJ xs k).length:=by unfold iJ;rw[aq hk,c9,j9];omega
  have gB:eX.size < scanBound:=by omega
  refine af (gw _ ?_)
  have tail:∀t2:SetTable,t2.fits eX.size=true->t2.led=t.led->t2.plain=false->wpAny (model P w) A (do
    storeSet a eX t2
    if (!wd && t2.tooFull)=true then do
      let r:=relayAll t2 eX (SetTable.grown eX.size)
      (match r.2.2 with | true=>rule "set.scan.the-table-gave-way" | false=>pure ())
      storeSet a r.1 r.2.1
      pure (some true)
     else pure (some true)) (fun r s'=>wpAny (model P w) A (match r with | some added=>pure added | none=>setAddHashedIn a (.str k tk) (hashStr w k) 99999) Q E s') E s:=by
   intro t2 lb iO k7
   obtain⟨zQ,hS1⟩:=LW (P:=P) (w:=w) ho hex hd Of Nv gB lb hln (iO.trans Di) k7
   have Qi:=J0 s.heap a (Obj.putSet eX t2)
   refine af (wpAny_storeSet_of ho hd ?_ (fits_of_scanBound gB))
   split
   ·have q1:=relayAll_perm t2 eX (SetTable.grown eX.size)
    have q2:=relayAll_fits t2 eX (SetTable.grown eX.size)
    have q3:=UO t2 eX (SetTable.grown eX.size)
    dsimp only
    generalize relayAll t2 eX (SetTable.grown eX.size)=R at q1 q2 q3 ⊢
    obtain⟨GJ,t3,g2⟩:=R
    dsimp only at q1 q2 q3 ⊢
    have sz2:GJ.size=eX.size:=by rw[<-uR,q1.length_eq,uR]
    have hm2:∀k',k'∈iJ xs k ↔ ∃e∈GJ.toList,(strKind P w).is k' e.2=true:=fun k'=>(Nv k').trans ⟨fun⟨e,he,q⟩=>⟨e,q1.mem_iff.mpr he,q⟩,fun⟨e,he,q⟩=>⟨e,q1.mem_iff.mp he,q⟩⟩
    obtain⟨_,hS2⟩:=LW (P:=P) (w:=w) zQ hex rfl (Of.perm q1) hm2 (by omega) q2 (by omega) (q3.1.trans (iO.trans Di)) (q3.2 k7)
    refine af (gw _ (af (wpAny_storeSet_of zQ rfl ?_ (fits_of_scanBound (by omega)))))
    exact aB (aB (h _ (Qi.trans (J0 _ a _)) hS2 _))
   ·exact aB (aB (h _ Qi hS1 _))
  by_cases GV:t1.plain=true
  ·rw[aA GV]
   refine af ?_
   rw[hashByValue_scannable 8 GU]
   refine aB ?_
   show wpAny (model P w) A (do
    storeSet a eX { t1 with plain:=false }
    _) _ E s
   exact tail { t1 with plain:=false } (SetTable.fits_plain_off yX) vY rfl
  ·rw[aq GV]
   refine af (aB ?_)
   show wpAny (model P w) A (do
    storeSet a eX t1
    _) _ E s
   exact tail t1 yX vY (by simpa using GV)
end
end HS
namespace HS
open PySem PySem.Spec PyProof.Rows
def jy (val:Nat->Str) (i:Nat):List Str:=((List.range i).map val).foldl iJ []
theorem yx (val:Nat->Str) (i:Nat):jy val (i+1)=iJ (jy val i) (val i):=by
 unfold jy;rw[List.range_succ,bV,List.foldl_append];rfl
theorem Wx (xs:List Str) (k:Str):(iJ xs k).length<=xs.length+1:=by
 unfold iJ
 split
 ·omega
 ·rw[c9,j9];omega
theorem Xz {xs:List Str} (h:xs.Nodup) (k:Str):(iJ xs k).Nodup:=by
 unfold iJ
 split
 ·exact h
 ·rename_i hn
  rw[lr]
  exact⟨h,by simp,fun a ha b hb e=>hn (by rw[<-(eN.mp hb),<-e];exact ha)⟩
theorem Wy {xs:List Str}{k y:Str}:y∈iJ xs k ↔ y∈xs\/y=k:=by
 unfold iJ
 split
 ·rename_i h
  exact⟨.inl,fun z=>z.elim id fun e=>e ▸ h⟩
 ·rw[dk,eN]
theorem LX (val:Nat->Str):∀i,(jy val i).length<=i
 | 0=>aN _
 | i+1=>by rw[yx];have:=Wx (jy val i) (val i);have:=LX val i;omega
theorem Mz (val:Nat->Str):∀i,(jy val i).Nodup
 | 0=>rG
 | i+1=>by rw[yx];exact Xz (Mz val i) _
theorem LY (val:Nat->Str) (y:Str):∀i,y∈jy val i ↔ ∃j,j < i/\val j=y
 | 0=>⟨fun h=>(by cases h),fun⟨_,h,_⟩=>absurd h (AU _)⟩
 | i+1=>by
  rw[yx,Wy,LY val y i]
  constructor
  ·rintro(⟨j,h,e⟩|e)
   ·exact⟨j,by omega,e⟩
   ·exact⟨i,by omega,e.symm⟩
  ·rintro⟨j,h,e⟩
   by_cases c:j=i
   ·exact .inr (by rw[<-e,c])
   ·exact .inl ⟨j,by omega,e⟩
section
variable {P : Program} {w : World} {A : Around} {R : Result -> Shared -> Prop} {I : Addr} {fp wr : List Addr} {G : Array GenState -> Array GenState -> Prop} {n : Nat} {Pv : Nat -> Value -> Prop} {St : Nat -> Shared -> Prop}
theorem Wz (W:WalksS P w A.in1 I fp wr G n Pv St) (S:Addr) (hS:S ∉ fp) (val:Nat->Str) (hv:∀i v,Pv i v -> ∃t,v = .str (val i) t) (hb:n+1 < scanBound) :
  ∀ (k i:Nat) (s:Shared),n - i=k->i<=n->St i s->i4 P w s.heap S (jy val i)->(∀s',Moved (S::wr) G s s'->i4 P w s'.heap S (jy val n)->R (.ok (.ret .none)) s') ->
   codeAny (model P w) A (.builtin "set.update.loop" ⟨[.ref S,.ref I],[]⟩) R s:=by
 have hw:S ∉ wr:=fun z=>hS (W.sub _ z)
 have up:∀b∈wr,b∈S::wr:=fun b z=>bU _ z
 intro k
 induction k with
 | zero =>
  intro i s hk hi st x q
  obtain rfl:i=n:=by omega
  refine jh F.entry_set_update_loop ?_
  rw[mh T3 _]
  show wpAny _ A.in1 (pyNext (.ref I) >>= _) _ _ s
  refine af (W.done s _ _ st fun s' m=>?_);show wpAny _ A.in1 (ret Value.none) _ _ s'
  exact aB (q s' (m.mono up) (x.keep fun o e=>m.heap S o hw e))
 | succ k ih =>
  intro i s hk hi st x q
  have lt:i < n:=by omega
  refine jh F.entry_set_update_loop ?_
  rw[mh T3 _]
  show wpAny _ A.in1 (pyNext (.ref I) >>= _) _ _ s
  refine af (W.item i s _ _ lt st fun v s' hP fu m=>?_)
  obtain⟨t,rfl⟩:=hv i v hP
  have x':i4 P w s'.heap S (jy val i):=x.keep fun o e=>m.heap S o hw e
  show wpAny _ A.in1 (holding [Value.str (val i) t] (setAdd S (.str (val i) t)) >>= _) _ _ s'
  refine af (dX ?_);unfold setAdd
  have lK:(strKind P w).is (val i) (.str (val i) t)=true:=by show Value.isStrOf (val i) (.str (val i) t)=true;simp[Value.isStrOf]
  refine dX (af ((strKind P w).pyHash (k:=val i) lK ?_))
  have room:(jy val i).length+1 < scanBound:=by have:=LX val i;omega
  refine Ww (s:={ s' with toks:=s'.toks+1 }) x' room fun h' sb x2 b=>?_
  rw[<-yx]at x2
  refine aB ⟨rF T3 _,ih (i+1) _ (by omega) lt (W.frame _ s' _ _ fu (nN _) fun c hc o e=>?_) x2 fun kZ m'' x''=>?_⟩
  ·rw[sb.2 c (fun z:c=S=>hS (by rw[<-z];exact hc))];exact e
  ·refine q kZ (Moved.trans W.gtrans ((m.mono up).then_heap (nN _) fun c o hc e=>?_) m'') x''
   rw[sb.2 c (fun z:c=S=>hc (by rw[z];exact ba))];exact e
end
section
variable {P : Program} {w : World} {A : Around} {E : Value -> Shared -> Prop} {s : Shared}
abbrev m6 (w:World):Obj:={ cls:= .type "set", dict:=none,data:= .set #[] 0 (.fresh 0 0 (!w.params.followText "set-order")) }
theorem UP (a:Value) {Q₁:Value->Shared->Prop} (h:Q₁ (.ref s.heap.objs.size) { s with heap:=s.heap.push (m6 w) }) :
  codeAny (model P w) A (.call (.builtin "set.__new__") ⟨[.type "set", a],[]⟩) (wants Q₁ E) s:=by
 refine Tz ?_;show wpAny _ A.in1 (do checkBuiltinCall "set.__new__" ⟨[.type "set", a],[]⟩;again (.builtin "set.__new__" ⟨[.type "set", a],[]⟩)) _ _ s
 refine af (wpAny_of_eq (F.newCall_set_1 a) (aB ⟨rF F.plain_set_new _,jh F.entry_set_new ?_⟩));rw[mh F.plain_set_new _]
 unfold Builtin.«set.__new__» Builtin.Frozenset.newClass;have ss:=sub_set_self
 obtain⟨hp,g,d,tk,os⟩:=s;dsimp only
 wp_walk
 refine wpAny_askSetting (aB ?_);dsimp only;simp only[newObj]
 refine af (wpAny_alloc (aB ?_));exact aB h
structure Src (P:Program) (w:World) (T:String) (l:Addr) (ol:Obj) (n:Nat) (Pv:Nat->Value->Prop):Prop where
 cls:ol.cls = .type T
 ns:isSubtype (.type T) (.type "set")=pure false
 nf:isSubtype (.type T) (.type "frozenset")=pure false
 nd:(Value.type T==Value.type "dict")=false
 iter:∀ (A:Around) (s:Shared),A.handled=none->s.heap.get? l=some ol -> ∃ (oI:Obj) (St:Nat->Heap->Prop),
  (∀ (E:Value->Shared->Prop) (Q:Value->Shared->Prop),Q (.ref s.heap.objs.size) { s with heap:=s.heap.push oI }->wpAny (model P w) A (pyIter (.ref l)) Q E s) /\
  Walks P w A s.heap.objs.size [s.heap.objs.size,l] [s.heap.objs.size] n Pv St/\St 0 (s.heap.push oI)
theorem VI {T:String}{l:Addr}{ol:Obj}{n:Nat}{Pv:Nat->Value->Prop}{val:Nat->Str}{Q:Value->Shared->Prop} (hh:A.handled=none) (C:Src P w T l ol n Pv) (hl:s.heap.get? l=some ol) (hv:∀i v,Pv i v -> ∃t,v = .str (val i) t) (hb:n+1 < scanBound)
  (h:∀ (h':Heap) (tk:Nat),i4 P w h' s.heap.objs.size (jy val n)->(∀b o,b < s.heap.objs.size->s.heap.get? b=some o->h'.get? b=some o)->Q (.ref s.heap.objs.size) { s with heap:=h',toks:=tk }) :
  wpAny (model P w) A (call (.type "set") [.ref l]) Q E s:=by
 obtain⟨c0,tl0,alM⟩:=rH.mro
 have alE:=rH.made;have alN:=rH.sub
 refine nL (Tz ?_);show wpAny _ _ (callAny (.type "set") _) _ _ _
 refine aB ⟨JM _ (by decide +kernel),jh F.entry_type_call ?_⟩;rw[Around.under_plain (weight_type_call_type "set" [.ref l] []) rfl]
 have f1:=rH.notType;have f2:=rH.canCreate
 have f3:=F.typeCall_set_1 (.ref l)
 repeat (any_goals (first | assumption | wp_step))
 refine pH (UP (.ref l) (E:=E) (Q₁:=fun obj aY=>obj = .ref s.heap.objs.size/\aY={ s with heap:=s.heap.push (m6 w) }) ⟨rfl,rfl⟩) fun r aY hr=>?_
 cases r with
 | error e=>exact hr
 | ok fl =>
  cases fl with
  | ret obj =>
   obtain⟨rfl,rfl⟩:=hr
   have gS:(s.heap.push (m6 w)).get? s.heap.objs.size=some (m6 w):=dj _ rfl
   have tS:Shared.TypeIs { s with heap:=s.heap.push (m6 w) } (.ref s.heap.objs.size) "set" :=⟨_,gS,rfl⟩
   have i1:=rH.init.lookup;have i2:=rH.init.bind (.ref s.heap.objs.size)
   repeat (any_goals (first | assumption | wp_step))
   refine pH (JN (R:=wants (fun r kq=>r = .none /\ ∃h' tk,kq={ s with heap:=h',toks:=tk }/\i4 P w h' s.heap.objs.size (jy val n)/\(∀b o,b < s.heap.objs.size->s.heap.get? b=some o->h'.get? b=some o)) E) rH.init.plain F.entry_set_init (check_set_init_1 tS ?_)) fun aaG kq CH=>?_
   ·have gC:(s.heap.push (m6 w)).get? l=some ol:=bj _ hl
    obtain⟨aaH,alF,alG,alB⟩:=ol
    have aaI:aaH = .type T:=C.cls
    subst aaI
    have ns:=C.ns;have nf:=C.nf;have nd:=C.nd
    unfold Builtin.«set.__init__» noKeywords Builtin.Frozenset.updateFrom
    generalize hPI:pyIter=PI
    wp_walk
    subst hPI
    obtain⟨oI,St,it,W,st⟩:=C.iter A.in1.in1.in1 { s with heap:=s.heap.push (m6 w) } (by simp[hh]) gC
    refine wpAny_of_in1 (it _ _ ?_)
    refine af (AS ?_)
    have lS:l < s.heap.objs.size:=aU hl
    have nS:s.heap.objs.size ∉ [(s.heap.push (m6 w)).objs.size,l]:=by
     rw[x6];simp only[bq,eN,rJ,rK,not_or];exact⟨bh (Nat.lt_succ_self _),uT lS⟩
    refine Wz W.toS s.heap.objs.size nS val hv hb (n - 0) 0 _ (by omega) (a4 _) st (Wv (bj _ gS)) ?_
    intro s' m x'
    obtain⟨h',g',d',nz,wN⟩:=s'
    have e1:g'=s.gens:=m.gens
    have e2:d'=s.drawn:=m.drawn
    have e3:wN=s.os:=m.os
    subst e1;subst e2;subst e3
    show wpAny _ _ _ _ _ _
    refine aB ?_;show wpAny _ _ (ret Value.none) _ _ _
    refine aB ⟨rfl,h',nz,rfl,x',fun b o hb e=>?_⟩
    have b1:b≠s.heap.objs.size:=bh hb
    have b2:b≠(s.heap.push (m6 w)).objs.size:=by rw[x6];exact bh (J1 hb)
    exact m.heap b o (by simp only[bq,eN,rJ,rK,not_or];exact⟨b1,b2⟩) (bj _ (bj _ e))
   ·cases aaG with
    | error e=>exact CH
    | ok Zk =>
     cases Zk with
     | ret r =>
      obtain⟨rfl,h',tk,rfl,x',k'⟩:=CH
      repeat (any_goals (first | assumption | wp_step))
      exact h _ _ x' k'
     | _=>exact CH.elim
  | _=>exact hr.elim
theorem src_list {l:Addr}{items:Array Value}{ol:Obj} (cl:ol.cls = .type "list") (dt:∃n,ol.data = .seq items n):Src P w "list" l ol items.size (fun i v=>items[i]? = some v) where
 cls:=cl
 ns:=F.sub_list_set
 nf:=F.sub_list_frozenset
 nd:=by decide
 iter:=fun A s hh hl=>by
  have il:s.heap.IsList l items:=⟨ol,hl,cl,dt⟩
  have lt:=aU hl
  exact⟨_,_,fun E Q q=>AD il q,Walks.list hh _ l (bh lt) items,⟨_,dj _ rfl,rfl,rfl⟩,il.push _⟩
theorem XA {l:Addr}{items:Array Value}{ol:Obj} (cl:ol.cls = .type "tuple") (dt:∃n,ol.data = .seq items n):Src P w "tuple" l ol items.size (fun i v=>items[i]? = some v) where
 cls:=cl
 ns:=F.sub_tuple_set
 nf:=F.sub_tuple_frozenset
 nd:=by decide
 iter:=fun A s hh hl=>by
  have il:s.heap.IsTuple l items:=⟨ol,hl,cl,dt⟩
  have lt:=aU hl
  exact⟨_,_,fun E Q q=>wpAny_pyIter_tuple il q,Walks.tuple hh _ l (bh lt) items,⟨_,dj _ rfl,rfl,rfl⟩,il.push _⟩
end
end HS
namespace HS
open PySem PySem.Spec PyProof.Rows
end HS
namespace HS
open PySem PySem.Spec PyProof.Rows
section
variable {P : Program} {w : World} {A : Around} {E : Value -> Shared -> Prop} {s : Shared} {a : Addr} {xs : List Str}
theorem WA {vs:List Value}{ys:List Str} (h:StrsAre vs ys):vs.length=ys.length:=by
 induction h with
 | nil=>rfl
 | cons _ _ _ ih=>rw[dZ,dZ,ih]
end
end HS
namespace HS
open PySem PySem.Spec PyProof.Rows
end HS
namespace HS
open PySem PySem.Spec PyProof.Rows PySem.W
end HS
namespace L2
open PySem PySem.Spec PyProof.Rows PySem.W HS
def wk (P:Program) (w:World) (a:Addr) (xs:List Str):HO:= .ext fun h=>xs.Nodup/\i4 P w h a xs
theorem XB {P:Program}{w:World}{H:Hp}{h:Heap}{a:Addr}{xs:List Str} (nd:xs.Nodup) (x:i4 P w h a xs):bt P w H h a (wk P w a xs):=
 ⟨⟨nd,x⟩,(let ⟨o,_,_,_,e,_⟩:=x;⟨o,e⟩),fun _ _ q k=>⟨q.1,q.2.keep k⟩⟩
theorem MA:∀ {vs:List Value}{ys:List Str},StrsAre vs ys -> ∀ (i:Nat) (v:Value),vs[i]? = some v -> ∃t,v = .str (ys.getD i "") t
 | _,_,.nil,i,v,h=>by simp at h
 | _,_,.cons y t r,0,v,h=>by simp at h;exact⟨t,by rw[<-h];rfl⟩
 | _,_,.cons y t r,i+1,v,h=>by
  obtain⟨t',e⟩:=MA r i v (by simpa using h)
  exact⟨t',by rw[e];rfl⟩
section
variable {X : Cx}
theorem WB (hc:X.calm=true):df X (.type "set") (fun vs H Q=>∃ (p:Addr) (ss:List Str),vs = [.ref p]/\(aj X.K H p (ss.map V.str)\/aJ X.K H p (ss.map V.str))/\ss.length<=1000 /\ ∀a ds,H a=none->ds.Nodup->(∀y,y∈ds ↔ y∈ss)->Q (.ref a) (upd H a (wk X.prog X.w a ds))):=by
 intro pins s σ H vs us Q I r h
 obtain⟨p,ss,rfl,hq,h1k,q⟩:=h
 obtain⟨u,rfl,rx⟩:=vals1 r
 cases rx
 have fin:∀ (its:List Value) {T:String}{ol:Obj},Vals (ss.map V.str) its->Src X.prog X.w T p ol its.toArray.size (fun i v=>its.toArray[i]? = some v)->s.heap.get? p=some ol->wpAny (model X.prog X.w) X.A (call (.type "set") [.ref p]) (EP X pins σ Q) X.xe s:=fun its {T ol} rv C hp=>by
  have st:=yq rv
  have hlen:its.length=ss.length:=WA st
  refine VI (val:=fun i=>ss.getD i "") (I.ok.hd hc) C hp (fun i v hv=>MA st i v (by simpa using hv)) (by rw[cL,hlen];unfold scanBound;omega) fun h' tk x k=>?_
  have kp:∀b o,s.heap.get? b=some o->h'.get? b=some o:=fun b o e=>k b o (aU e) e
  have nd:=Mz (fun i=>ss.getD i "") its.toArray.size
  refine⟨.ref s.heap.objs.size,_,I.laid (t':=tk) kp (aN _) (XB nd x),rfl,q _ _ (I.ar.fresh (aN _)) nd fun y=>?_⟩
  rw[LY,cL,hlen]
  constructor
  ·rintro⟨j,hj,rfl⟩
   rw[show ss.getD j "" = ss[j] by simp[hj]]
   exact iT hj
  ·intro hy
   obtain⟨j,hj,e⟩:=J8.mp hy
   exact⟨j,hj,by simp[hj,e]⟩
 rcases hq with hq | hq
 ·obtain⟨its,r',pl,hz⟩:=I.list hq
  obtain⟨o,ho,gM,n,hd⟩:=pl.isList
  exact fin its r' (src_list gM ⟨n,hd⟩) ho
 ·obtain⟨its,r',pl,hz⟩:=I.tuple hq
  obtain⟨o,ho,gM,n,hd⟩:=pl
  exact fin its r' (XA gM ⟨n,hd⟩) ho
theorem UQ:df X (.builtin "len") (fun vs H Q=>∃ (a:Addr) (ds:List Str),vs = [.ref a]/\H a=some (wk X.prog X.w a ds)/\Q (.int ds.length) H):=by
 intro pins s σ H vs us Q I r h
 obtain⟨a,ds,rfl,hq,q⟩:=h
 obtain⟨u,rfl,rx⟩:=vals1 r
 cases rx
 obtain⟨⟨nd,o,es,ep,t,ho,hex,hd,qW,oH,hb,hf,hn,_⟩,_⟩:=(show bt X.prog X.w H s.heap a (wk X.prog X.w a ds) from I.ar a _ hq)
 refine call_len_set ho hex hd hf (by unfold scanBound at hb;omega) ?_
 rw[<-hn]at q
 exact⟨.int es.size,H,I.tok _,⟨_,rfl⟩,q⟩
end
end L2
namespace L2
open PySem PySem.W PySem.Calls PyProof.Rows
structure Ord (n:Nat) (lt:Nat->Nat->Bool):Prop where
 tr:∀i j k,lt i j=true->lt j k=true->lt i k=true
 GX:∀i j,i < n->j < n->i≠j->lt i j=false->lt j i=true
def cW {α:Type} (n:Nat) (lt:Nat->Nat->Bool) (φ:α->Prop):KasT α->Prop
 | .ret a=>φ a
 | .ask i j k=>i < n/\j < n/\cW n lt φ (k (lt i j))
section
variable {α β : Type} {n : Nat} {lt : Nat -> Nat -> Bool}
theorem cW.bind {φ:α->Prop}{ψ:β->Prop}{f:α->KasT β} (g:∀a,φ a->cW n lt ψ (f a)):∀ {t:KasT α},cW n lt φ t->cW n lt ψ (t.bind f)
 | .ret a,h=>g a h
 | .ask _ _ _,h=>⟨h.1,h.2.1,cW.bind g h.2.2⟩
theorem cW.wp {φ:α->Prop}{cmp:Nat->Nat->(Bool->Shared->Prop)->Shared->Prop}{Q:α->Shared->Prop}{s:Shared} (hc:∀i j C,i < n->j < n->C (lt i j) s->cmp i j C s):∀ {t:KasT α},cW n lt φ t->(∀a,φ a->Q a s)->t.kasWp cmp Q s
 | .ret a,h,q=>q a h
 | .ask _ _ _,h,q=>hc _ _ _ h.1 h.2.1 (cW.wp hc h.2.2 q)
theorem cW.mono {φ ψ:α->Prop} (g:∀a,φ a->ψ a):∀ {t:KasT α},cW n lt φ t->cW n lt ψ t
 | .ret a,h=>g a h
 | .ask _ _ _,h=>⟨h.1,h.2.1,cW.mono g h.2.2⟩
def fU (lt:Nat->Nat->Bool) (p:Array Nat) (k:Nat):Prop:= ∀i j,i < j->j < k->lt (p.getD i 0) (p.getD j 0)=true
def iP (lt:Nat->Nat->Bool) (p:Array Nat) (k:Nat):Prop:= ∀i j,i < j->j < k->lt (p.getD j 0) (p.getD i 0)=true
theorem Pm.size {p:Array Nat} (h:Pm n p):p.size=n:=by have:=h.length_eq;simpa using this
theorem Pm.ne {p:Array Nat} (h:Pm n p) {i j:Nat} (hi:i < n) (hj:j < n) (e:i≠j):p.getD i 0≠p.getD j 0:=by
 have hs:=h.size
 have nd:p.toList.Nodup:=h.nodup_iff.mpr List.nodup_range
 intro z
 rw[mi,mi,J' (by omega),J' (by omega)]at z
 have z2:p.toList[i]'(by simp;omega)=p.toList[j]'(by simp;omega):=by simpa using z
 exact e ((List.getElem_inj nd).mp z2)
theorem CI {p:Array Nat} (O:Ord n lt) (h:Pm n p) {i j:Nat} (hi:i < n) (hj:j < n) (e:i≠j) (f:lt (p.getD i 0) (p.getD j 0)=false):lt (p.getD j 0) (p.getD i 0)=true:=
 O.GX _ _ (h.lt (by omega) i) (h.lt (by omega) j) (h.ne hi hj e) f
theorem fU.step {p:Array Nat} (O:Ord n lt) {m:Nat} (h1:1<=m) (a:fU lt p m) (l:lt (p.getD (m - 1) 0) (p.getD m 0)=true):fU lt p (m+1):=fun i j cT hj=>by
 by_cases e:j < m
 ·exact a i j cT e
 ·obtain rfl:j=m:=by omega
  by_cases e2:i=j - 1
  ·rw[e2];exact l
  ·exact O.tr _ _ _ (a i (j - 1) (by omega) (by omega)) l
theorem iP.step {p:Array Nat} (O:Ord n lt) {m:Nat} (h1:1<=m) (a:iP lt p m) (l:lt (p.getD m 0) (p.getD (m - 1) 0)=true):iP lt p (m+1):=fun i j cT hj=>by
 by_cases e:j < m
 ·exact a i j cT e
 ·obtain rfl:j=m:=by omega
  by_cases e2:i=j - 1
  ·rw[e2];exact l
  ·exact O.tr _ _ _ l (a i (j - 1) (by omega) (by omega))
theorem Ca {p:Array Nat} (O:Ord n lt) (h:Pm n p):∀ (f m:Nat),1<=m->m+f<=n->fU lt p m->cW n lt (fun r=>m<=r/\r<=m+f/\fU lt p r/\(r < m+f->lt (p.getD r 0) (p.getD (r - 1) 0)=true)) (kas_asc p f m)
 | 0,m,h1,h2,a=>⟨aN _,aN _,a,fun z=>absurd z (by omega)⟩
 | f+1,m,h1,h2,a=>⟨h.lt (by omega) _,h.lt (by omega) _,by
  cases c:lt (p.getD m 0) (p.getD (m - 1) 0) with
  | true=>exact⟨aN _,by omega,a,fun _=>c⟩
  | false =>
   refine cW.mono (fun r hr=>?_) (Ca O h f (m+1) (by omega) (by omega) (a.step O h1 (CI O h (by omega) (by omega) (by omega) c)))
   exact⟨by omega,by omega,hr.2.2.1,fun z=>hr.2.2.2 (by omega)⟩⟩
theorem LZ {p:Array Nat} (O:Ord n lt) (h:Pm n p):∀ (f m:Nat),1<=m->m+f<=n->iP lt p m->cW n lt (fun r:Array Nat×Nat×Nat=>r.1=p/\r.2.2=0/\m<=r.2.1/\r.2.1<=m+f/\iP lt p r.2.1) (kas_desc f p m 0)
 | 0,m,h1,h2,a=>⟨rfl,rfl,aN _,aN _,a⟩
 | f+1,m,h1,h2,a=>⟨h.lt (by omega) _,h.lt (by omega) _,by
  cases c:lt (p.getD m 0) (p.getD (m - 1) 0) with
  | true =>
   show cW n lt _ (if 0 > 0 then kas_desc f (kas_rev p (m - (0+1)) m) (m+1) 0 else kas_desc f p (m+1) 0)
   rw[aq (by omega)]
   refine cW.mono (fun r hr=>?_) (LZ O h f (m+1) (by omega) (by omega) (a.step O h1 c))
   exact⟨hr.1,hr.2.1,by omega,by omega,hr.2.2.2.2⟩
  | false =>
   refine⟨h.lt (by omega) _,h.lt (by omega) _,?_⟩
   rw[CI O h (by omega) (by omega) (by omega) c]
   exact⟨rfl,rfl,aN _,yh _ _,a⟩⟩
theorem L3 {p:Array Nat}{m:Nat} (hm:m<=p.size) (k:Nat) (hk:k < m):(kas_rev p 0 m).getD k 0=p.getD (m - 1 - k) 0:=by
 unfold kas_rev
 rw[mi,getElem?_mirror_all hm,aA ⟨a4 _,hk⟩,mi,Nat.zero_add]
theorem iP.rev {p:Array Nat}{m:Nat} (hm:m<=p.size) (a:iP lt p m):fU lt (kas_rev p 0 m) m:=fun i j cT hj=>by
 rw[L3 hm i (by omega),L3 hm j hj]
 exact a _ _ (by omega) (by omega)
def yY (n:Nat) (lt:Nat->Nat->Bool) (r:Nat×Array Nat):Prop:=Pm n r.2/\fU lt r.2 r.1/\1<=r.1/\r.1<=n
theorem VJ {p:Array Nat} (O:Ord n lt) (h:Pm n p) {m:Nat} (h1:1<=m) (h2:m<=n) (a:iP lt p m):cW n lt (yY n lt) (kas_tail3 m n p):=
 cW.bind (ψ:=yY n lt) (f:=fun k=>.ret (k,kas_rev p 0 m)) (fun r hr=>(show yY n lt (r,kas_rev p 0 m) from⟨h.rev _ _,hr.2.2.1,cK h1 hr.1,by have:=hr.2.1;show r<=n;omega⟩)) (Ca O (h.rev 0 m) (n - m) m h1 (by omega) (a.rev (by rw[h.size];exact h2)))
theorem VL {p:Array Nat} (O:Ord n lt) (hn:2<=n) (h:Pm n p):cW n lt (yY n lt) (kas_count n p):=
 (Ca O h (n - 1) 1 (aN _) (by omega) (fun i j cT hj=>absurd hj (by omega))).bind fun m hm=>by
  obtain⟨m1,m2,ma,ml⟩:=hm
  show cW n lt _ (if (m==n)=true then _ else if m > 1 then _ else _)
  split
  ·rename_i e
   have:m=n:=by simpa using e
   subst this
   exact⟨h,ma,m1,aN _⟩
  ·rename_i e
   have ne:m≠n:=by simpa using e
   split
   ·rename_i g
    refine⟨h.lt (by omega) _,h.lt (by omega) _,?_⟩
    rw[ma 0 (m - 1) (by omega) (by omega)]
    exact⟨h,ma,m1,by omega⟩
   ·obtain rfl:m=1:=by omega
    have l:=ml (by omega)
    have d2:iP lt p 2:=fun i j cT hj=>by
     obtain rfl:j=1:=by omega
     obtain rfl:i=0:=by omega
     exact l
    refine cW.bind (fun r hr=>?_) (LZ O h (n - (1+1)) (1+1) (by omega) (by omega) d2)
    obtain⟨r1,r2,r3,r4,r5⟩:=hr
    show cW n lt _ (if r.2.2 > 0 then _ else _)
    rw[aq (by omega),r1]
    exact VJ O h (by omega) (by omega) r5
theorem BA {p:Array Nat} (O:Ord n lt) (h:Pm n p) {k:Nat} (hk:k < n) (a:fU lt p k):∀ (f l r:Nat),r - l<=f->l<=r->r<=k->(∀i,i < l->lt (p.getD i 0) (p.getD k 0)=true)->(∀i,r<=i->i < k->lt (p.getD k 0) (p.getD i 0)=true) ->
  cW n lt (fun m=>m<=k/\(∀i,i < m->lt (p.getD i 0) (p.getD k 0)=true) /\ ∀i,m<=i->i < k->lt (p.getD k 0) (p.getD i 0)=true) (kas_place p k f l r)
 | 0,l,r,hf,hl,hr,lo,hi=>by
  obtain rfl:l=r:=by omega
  exact⟨hr,lo,hi⟩
 | f+1,l,r,hf,hl,hr,lo,hi=>by
  show cW n lt _ (if l ≥ r then _ else _)
  split
  ·obtain rfl:l=r:=by omega
   exact⟨hr,lo,hi⟩
  ·refine⟨h.lt (by omega) _,h.lt (by omega) _,?_⟩
   cases c:lt (p.getD k 0) (p.getD ((l+r) / 2) 0) with
   | true =>
    refine BA O h hk a f l ((l+r) / 2) (by omega) (by omega) (by omega) lo fun i qX GZ=>?_
    by_cases e:i=(l+r) / 2
    ·rw[e];exact c
    ·exact O.tr _ _ _ c (a _ i (by omega) GZ)
   | false =>
    have c2:=CI O h (i:=k) (j:=(l+r) / 2) hk (by omega) (by omega) c
    refine BA O h hk a f ((l+r) / 2+1) r (by omega) (by omega) hr (fun i qX=>?_) hi
    by_cases e:i=(l+r) / 2
    ·rw[e];exact c2
    ·exact O.tr _ _ _ (a i _ (by omega) (by omega)) c2
theorem yE {p:Array Nat}{k l:Nat} (hk:k < p.size) (hl:l<=k) (i:Nat):(bubble p k (k - l)).getD i 0=if i=l then p.getD k 0 else if l < i/\i<=k then p.getD (i - 1) 0 else p.getD i 0:=by
 rw[mi,getElem?_bubble hk (k - l) (by omega)]
 have:k - (k - l)=l:=by omega
 rw[this]
 by_cases c1:i=l
 ·rw[aA c1,aA c1];exact(mi ..).symm
 ·rw[aq c1,aq c1]
  by_cases c2:l < i/\i<=k
  ·rw[aA c2,aA c2];exact(mi ..).symm
  ·rw[aq c2,aq c2];exact(mi ..).symm
theorem MB (O:Ord n lt):∀ (f:Nat) (p:Array Nat) (k:Nat),k+f=n->Pm n p->fU lt p k->cW n lt (fun r=>Pm n r/\fU lt r n) (kas_bin f p k)
 | 0,p,k,e,h,a=>by
  obtain rfl:k=n:=by omega
  exact⟨h,a⟩
 | f+1,p,k,e,h,a=>(BA O h (by omega) a k 0 k (by omega) (a4 _) (aN _) (fun i hi=>absurd hi (AU _)) (fun i h1 h2=>absurd h2 (by omega))).bind fun l hl=>by
  obtain⟨l1,l2,l3⟩:=hl
  refine MB O f _ _ (by omega) (h.Qg _ _) fun i j cT hj=>?_
  have hsz:=h.size
  rw[yE (by omega) l1 i,yE (by omega) l1 j]
  by_cases i1:i=l
  ·rw[aA i1,aq (by omega),aA (by omega)]
   exact l3 _ (by omega) (by omega)
  ·rw[aq i1]
   by_cases i2:l < i/\i<=k
   ·rw[aA i2,aq (by omega),aA (by omega)]
    exact a _ _ (by omega) (by omega)
   ·rw[aq i2]
    by_cases j1:j=l
    ·rw[aA j1];exact l2 i (by omega)
    ·rw[aq j1]
     by_cases j2:l < j/\j<=k
     ·rw[aA j2]
      exact a _ _ (by omega) (by omega)
     ·rw[aq j2]
      exact a _ _ cT (by omega)
theorem WC (O:Ord n lt) (hn:2<=n):cW n lt (fun r=>Pm n r/\fU lt r n) (kas_sort n):=
 (VL O hn (uY _)).bind fun r hr=>by
  obtain⟨r1,r2,r3,r4⟩:=hr
  show cW n lt _ (if r.1 < n then _ else _)
  split
  ·refine MB O _ _ _ (by omega) r1 ?_
   rw[show max r.1 1=r.1 by omega];exact r2
  ·obtain e:r.1=n:=by omega
   rw[e]at r2
   exact⟨r1,r2⟩
end
end L2
namespace L2
open PySem PySem.W PySem.Calls PyProof.Rows
def gN (p q:Str):Bool:=decide (p.cps.toList < q.cps.toList)
theorem yF (p:Str):gN p p=false:=je (List.lt_irrefl _)
theorem Ck {p q r:Str} (h1:gN p q=true) (h2:gN q r=true):gN p r=true:=gO (List.lt_trans (uZ h1) (uZ h2))
theorem MC {p q:Str} (h:p≠q) (f:gN p q=false):gN q p=true:=by
 refine gO ?_
 have h1 : ¬ p.cps.toList < q.cps.toList:=of_decide_eq_false f
 have h2:q.cps.toList<=p.cps.toList:=List.not_lt.mp h1
 by_cases z:q.cps.toList < p.cps.toList
 ·exact z
 ·exact absurd (Wu (a:=p) (b:=q) (List.not_lt.mp z) h2) h
theorem VM {prog:Program}{w:World}{A:Around}{E:Value->Shared->Prop}{s:Shared}{x y:Addr}{p q:Str}{t u:Tok}{v z:Addr}{C:Bool->Shared->Prop} (hx:IsTup s.heap x #[.str p t,.ref v]) (hy:IsTup s.heap y #[.str q u,.ref z]) (hd:p=q->v=z) (h:C (gN p q) s) :
  wpAny (model prog w) A (keyLt' (tuples' true) (.ref x) (.ref y)) C E s:=by
 obtain⟨ox,ex,cx,nx,dx⟩:=hx
 obtain⟨oy,ey,cy,ny,dy⟩:=hy
 refine kat_lt ex dx ey dy (kat_cons (S' ?_))
 by_cases e:p=q
 ·rw[gO e]
  obtain rfl:=hd e
  subst e
  rw[yF]at h
  exact kat_yes (kat_cons (U9 (kat_yes (kat_nil h))))
 ·rw[je e]
  exact kat_no (kas_lt_str h)
theorem Lp {α β:Type}{F:α->β->Prop}{l:List α}{m:List β} (h:Paired F l m) (dl:α) (dm:β) (i:Nat) (hi:i < l.length):F (l.getD i dl) (m.getD i dm):=by
 induction h generalizing i with
 | nil=>exact absurd hi (AU _)
 | cons p _ ih =>
  cases i with
  | zero=>exact p
  | succ i=>exact ih i (alb hi)
theorem Bh {α β γ:Type}{F:α->β->Prop}{f:γ->α}{g:γ->β}:∀ {l:List γ},(∀x∈l,F (f x) (g x))->Paired F (l.map f) (l.map g)
 | [],_=>.nil
 | x::l,h=>.cons (h x ba) (Bh fun y hy=>h y (bU _ hy))
theorem M4 {lt:Nat->Nat->Bool}{p:Array Nat}{n:Nat} (hs:p.size=n) (a:fU lt p n):p.toList.Pairwise fun i j=>lt i j=true:=by
 rw[List.pairwise_iff_getElem]
 intro i j hi hj cT
 have h1:i < p.size:=by simpa using hi
 have h2:j < p.size:=by simpa using hj
 have:=a i j cT (by omega)
 rw[mi,mi,J' h1,J' h2]at this
 simpa using this
section
variable {X : Cx}
theorem Us:df X (.builtin "sorted") (fun xs H Q=>∃ (p:Addr) (ys:List V) (kvs:List (Str×V)),xs = [.ref p]/\aj X.K H p ys/\lC H ys kvs/\(∀q∈kvs,∃z,q.2=V.ref z)/\(kvs.map (·.1)).Nodup/\ys.length<=63 /\
  ∀D eg dw,H D=none->eg.Perm ys->lC H eg dw->dw.Perm kvs->(dw.map (·.1)).Pairwise (fun a b=>gN a b=true)->Q (.ref D) (upd H D (.lst eg))):=by
 intro pins s σ H xs us Q I r ⟨p,ys,kvs,ex,hq,pr,uq,nd,qV,q⟩
 subst ex
 obtain⟨u,rfl,rx⟩:=vals1 r
 cases rx
 obtain⟨its,rv,pl,hz⟩:=I.list hq
 have gC:ys.length=kvs.length:=ll pr
 have iO:=rv.length
 have at_:∀ (i:Nat),i < its.length -> ∃k a z t,(kvs.map (·.1))[i]? = some k/\its[i]? = some (.ref a)/\H a=some (.tup [.str k,.ref z])/\IsTup s.heap a #[.str k t,.ref z]:=by
  intro i hi
  have qY:i < ys.length:=by omega
  obtain⟨p',lU,a,ey,ha⟩:=jR pr (show ys[i]? = some ys[i] from br qY)
  obtain⟨z,ez⟩:=uq p' (j8 lU)
  obtain⟨u,hu,ru⟩:=rv.get (show ys[i]? = some (V.ref a) by rw[br qY,ey])
  cases ru
  obtain⟨i2,r2,t2,_⟩:=I.tuple (aJ.of ha)
  obtain⟨x,y,rfl,rx,ry⟩:=r2.two
  rw[ez]at ry ha
  cases ry
  obtain⟨t,rfl⟩:∃t,x = .str p'.1 t:=rx
  exact⟨p'.1,a,z,t,by rw[f6,lU];rfl,hu,ha,t2⟩
 obtain⟨m,hm,_⟩:=id I.loc
 let lt:Nat->Nat->Bool:=fun i j=>gN ((kvs.map (·.1)).getD i "") ((kvs.map (·.1)).getD j "")
 have kl:(kvs.map (·.1)).length=its.length:=by rw[aE];omega
 have O:Ord its.length lt:=⟨fun i j k h1 h2=>Ck h1 h2,fun i j hi hj cT f=>MC (fun e=>cT ((AV (by omega) nd).mp (by
  rw[d4,d4,br (by omega),br (by omega)]at e
  rw[br (by omega),br (by omega)]
  exact eT some e))) f⟩
 have fin:∀ (h':Heap) (D:Addr) (c:Nat) (pa:Array Nat),(∀b o,b≠X.env.locals->s.heap.get? b=some o->h'.get? b=some o)->h'.Ns X.env.locals m->(∀b o,s.heap.get? b=some o->b≠D)->Pm its.length pa->(pa.toList.Pairwise fun i j=>lt i j=true) ->
   h'.get? D=some (listOf (pa.toList.map fun i=>its.getD i Value.none).toArray c) -> ∃v H',Inv X pins σ H' { s with heap:=h' }/\RelV v (.ref D)/\Q v H':=by
  intro h' D c pa k gZ hD hp xl new
  have xm:∀i∈pa.toList,i < its.length:=fun i hi=>l8.mp (hp.mem_iff.mp hi)
  have py:(pa.toList.map fun i=>ys.getD i V.aD).Perm ys:=yQ V.aD (by rw[iO];exact hp)
  have jb:Pm kvs.length pa:=by rw[<-gC,iO];exact hp
  have pk:(pa.toList.map fun i=>kvs.getD i (("", V.aD):Str×V)).Perm kvs:=yQ _ jb
  have pp:lC H (pa.toList.map fun i=>ys.getD i V.aD) (pa.toList.map fun i=>kvs.getD i ("", V.aD)):=Bh fun i hi=>Lp pr V.aD ("", V.aD) i (by have:=xm i hi;omega)
  have ek:(pa.toList.map fun i=>kvs.getD i ("", V.aD)).map (·.1)=pa.toList.map fun i=>(kvs.map (·.1)).getD i ("" : Str):=by
   rw[nO]
   refine AW fun i hi=>?_
   have:i < kvs.length:=by have:=xm i hi;omega
   show(kvs.getD i ("", V.aD)).1=_
   rw[d4,d4,f6,br this];rfl
  have rel:Vals (pa.toList.map fun i=>ys.getD i V.aD) (pa.toList.map fun i=>its.getD i Value.none):=By (fun i=>by
   by_cases hi:i < ys.length
   ·obtain⟨u,hu,ru⟩:=rv.get (show ys[i]? = some ys[i] from br hi)
    rw[d4,d4,hu,br hi];exact ru
   ·rw[d4,d4,AR (by omega),AR (by omega)];trivial) pa.toList
  obtain⟨hn,I'⟩:=Inv.sorted (t':=s.toks) I hm gZ k hD new rel (by rw[py.length_eq];exact hz)
  refine⟨.ref D,_,I',rfl,q D _ _ hn py pp pk ?_⟩
  rw[ek,AX];exact xl
 have aaJ:∀v∈its,∃a k t z,v=Value.ref a/\IsTup s.heap a #[.str k t,.ref z]/\a≠X.env.locals:=fun v hv=>by
  obtain⟨i,hi,rfl⟩:=AO hv
  obtain⟨k,a,z,t,_,h2,h3,h4⟩:=at_ i hi
  rw[br hi]at h2
  exact⟨a,k,t,z,gF h2,h4,fun e=>by rw[e,I.free]at h3;cases h3⟩
 by_cases h2:its.length < 2
 ·refine Uy pl.isList h2 fun D c h' kp hD new=>?_
  obtain⟨o,es,ep,ho,rr⟩:=id hm
  refine fin h' D c (List.range its.length).toArray (fun b o _ e=>kp b o e) ⟨o,es,ep,kp _ _ ho,rr⟩ hD (uY _) ?_ ?_
  ·show(List.range its.length).Pairwise _
   have:its.length=0\/its.length=1:=by omega
   rcases this with z | z <;> rw[z]
   ·exact List.Pairwise.nil
   ·exact alc _ _
  ·have:(List.range its.length).map (fun i=>its.getD i Value.none)=its:=by
    apply TV
    ·simp
    ·intro i h1 h2;simp[List.getD,h2]
   show h'.get? D=some (listOf ((List.range its.length).map fun i=>its.getD i Value.none).toArray c)
   rw[this];exact new
 ·have h2:2<=its.length:=by omega
  obtain⟨g0,xk,j0⟩:∃g0:Heap,g0.objs.size=0 /\ ∀b,g0.get? b=none:=⟨{ s.heap with objs:= #[] },rfl,fun b=>uQ (a4 _)⟩
  have F:Fr g0 X.env.locals s.heap m:=⟨hm,fun b o e=>(by rw[j0]at e;cases e),by rw[xk];exact a4 _⟩
  refine kat_sorted F (BJ (g:=g0) (L:=X.env.locals)) pl.isList h2 (by omega) fun D e1 h' F' N' lt'=>?_
  have kp:∀b o,b≠X.env.locals->s.heap.get? b=some o->h'.get? b=some o:=fun b o n e=>(N' (b,o) (bU _ (rP n (j0 b) e))).1
  have tk:∀ {a:Addr}{k:Str}{t:Tok}{z:Addr},a≠X.env.locals->IsTup s.heap a #[.str k t,.ref z]->IsTup h' a #[.str k t,.ref z]:=fun n ⟨o,ho,r⟩=>⟨o,kp _ o n ho,r⟩
  obtain⟨fs,j3,lb,eJ⟩:=My (h:=h') (vs:=its) fun v hv=>by
   obtain⟨a,k,t,z,e,h4,n⟩:=aaJ v hv
   exact⟨a,k,t,z,e,tk n h4⟩
  refine kat_kind (T:= .type "str") lb (by omega) (fun f hf=>?_) (by decide) ?_
  ·obtain⟨k,t,rfl⟩:=eJ f hf
   exact Looks.of_pure rfl
  ·have hD:∀b o,s.heap.get? b=some o->b≠D:=fun b o e=>by
    by_cases hb:b=X.env.locals
    ·rw[hb];exact aO (N' _ ba).2.1
    ·exact bh (lt' (b,o) (rP hb (j0 b) e))
   refine(WC O h2).wp (fun i j C hi hj hC=>?_) fun pa hp=>?_
   ·obtain⟨k,a,z,t,g1,g2,g3,g4⟩:=at_ i hi
    obtain⟨k',a',z',t',z5,xo,uy,G0⟩:=at_ j hj
    unfold kas_ask
    rw[d4,d4,g2,xo]
    have el:lt i j=gN k k':=by show gN ((kvs.map (·.1)).getD i "") ((kvs.map (·.1)).getD j "")=_;rw[d4,d4,g1,z5];rfl
    rw[el]at hC
    refine VM (tk (fun e=>by rw[e,I.free]at g3;cases g3) g4) (tk (fun e=>by rw[e,I.free]at uy;cases uy) G0) (fun e=>?_) hC
    subst e
    have cT:i=j:=(AV (by rw[aE];omega) nd).mp (g1.trans z5.symm)
    subst cT
    rw[g2]at xo;cases xo
    rw[g3]at uy;cases uy;rfl
   ·refine KasFin.intro F' N' (UpdF.head fun p hp=>?_) fun ir c G2 xp=>?_
    ·have:=yi hp
     exact hD p.1 p.2 this.2.2
    ·exact fin ir D c pa (fun b o n e=>(xp (b,o) (bU _ (rP n (j0 b) e))).1) G2.ns hD hp.1 (M4 hp.1.size hp.2) (xp _ ba).1
end
end L2
namespace HS
open PySem PySem.Spec PyProof.Rows PySem.W
section
variable {P : Program} {w : World} {A : Around} {E : Value -> Shared -> Prop} {s : Shared}
theorem UR {l:Addr}{vs:List Value}{Q:List Value->Shared->Prop} (ht:IsTup s.heap l vs.toArray) (hz:vs.length<=sizeLine) (q:∀h',(∀b o,s.heap.get? b=some o->h'.get? b=some o)->Q vs { s with heap:=h' }) :
  wpAny (model P w) A (collect (.ref l)) Q E s:=by
 obtain⟨o,ho,hc,n,hd⟩:=id ht
 unfold collect
 refine af (AS (jh ald ?_));rw[mh ale _]
 show wpAny _ A.in1 (newList [] >>= fun z=>again (.builtin "list.__iadd__" ⟨[z,.ref l],[]⟩)) _ _ s
 refine af (yf (aB ⟨rF Ka _,jh alf ?_⟩));rw[mh Ka _]
 show wpAny _ _ (Builtin.List.listExtendWith (.ref s.heap.objs.size) (.ref l) (.ref s.heap.objs.size)) _ _ { s with heap:=s.heap.push (seqObj "list" #[] 0) }
 unfold Builtin.List.listExtendWith
 have jD:(s.heap.push (seqObj "list" #[] 0)).get? l=some o:=bj _ ho
 refine af (x8 (T:= "tuple") ⟨o,jD,hc⟩ ?_)
 have t1:(Value.type "tuple" == Value.type "tuple")=true:=by rfl
 rw[aA (by rw[t1];simp)]
 refine af (listItems_at jD hd (af (listItems_at (xs:= #[]) (n:=0) (dj _ rfl) rfl ?_)))
 rw[aq (by simp)]
 refine af (listUpdate_at (xs:= #[]) (n:=0) (dj _ rfl) rfl (aB ?_) (a4 _) (by show(#[]++vs.toArray).size<=sizeLine+1;simp only[JV,cL,yb];omega))
 show wpAny (model P w) A (load s.heap.objs.size >>= _) Q E { s with heap:=(s.heap.push (seqObj "list" #[] 0)).update s.heap.objs.size (Obj.mapSeq (· ++ vs.toArray)) }
 refine af (wpAny_load (get?_update_seq (dj _ rfl) _) ?_)
 show wpAny _ _ (pure ((#[]:Array Value)++vs.toArray).toList) Q E _
 rw[show((#[]:Array Value)++vs.toArray).toList=vs by simp]
 refine aB (q _ fun b ob e=>?_)
 exact(jg _ _ (uT (aU e))).trans (bj _ e)
end
end HS
namespace L2
open PySem PySem.Spec PyProof.Rows PySem.W HS
end L2
namespace L2
open PySem PySem.Spec PyProof.Rows PySem.W
mutual
inductive Dt (p:Addr) (H:Hp):V->PyData->Prop where
 | aD:Dt p H .aD .none
 | bl (b:Bool):Dt p H (.bl b) (.bool b)
 | int (i:Int):Dt p H (.int i) (.int i)
 | str (x:Str):Dt p H (.str x) (.str x)
 | lst {a:Addr}{xs:List V}{ds:List PyData}:a≠p->H a=some (.lst xs)->eQ p H xs ds->Dt p H (.ref a) (.list ds)
 | tup {a:Addr}{xs:List V}{ds:List PyData}:a≠p->H a=some (.tup xs)->eQ p H xs ds->Dt p H (.ref a) (.tuple ds)
 | xq {a:Addr}:a≠p->H a=some (.dK [])->Dt p H (.ref a) (.dict [])
inductive eQ (p:Addr) (H:Hp):List V->List PyData->Prop where
 | nil:eQ p H [] []
 | cons {x:V}{d:PyData}{xs:List V}{ds:List PyData}:Dt p H x d->eQ p H xs ds->eQ p H (x::xs) (d::ds)
end
section
variable {p : Addr} {H H' : Hp}
mutual
theorem Dt.keep (k:∀b o,H b=some o->b≠p->H' b=some o):∀ {v:V}{d:PyData},Dt p H v d->Dt p H' v d
 | _,_,.aD=>.aD
 | _,_,.bl b=>.bl b
 | _,_,.int i=>.int i
 | _,_,.str x=>.str x
 | _,_,.lst n e rs=>.lst n (k _ _ e n) (eQ.keep k rs)
 | _,_,.tup n e rs=>.tup n (k _ _ e n) (eQ.keep k rs)
 | _,_,.xq n e=>.xq n (k _ _ e n)
theorem eQ.keep (k:∀b o,H b=some o->b≠p->H' b=some o):∀ {vs:List V}{ds:List PyData},eQ p H vs ds->eQ p H' vs ds
 | _,_,.nil=>.nil
 | _,_,.cons r rs=>.cons (Dt.keep k r) (eQ.keep k rs)
end
end
end L2
namespace HT
open PySem PyProof.Rows
section
open PySem.SeqAt
open PySem.AutoSeq1 (wpAny_loadPart')
open PySem.MeetsSeq PySem.MeetsSeq2 PySem.MeetsSeq3
variable {A : Around} {s : Shared}
end
end HT
namespace L2
open PySem PySem.Spec PyProof.Rows PySem.W HT
end L2
namespace L2
open PySem PySem.Spec PyProof.Rows PySem.W HT
section
variable {X : Cx} {pins : List (Addr × Obj)} {σ : St} {H : Hp} {s : Shared} {p : Addr}
mutual
theorem Dt.reads (I:Inv X pins σ H s):∀ {v:V}{d:PyData}{u:Value},Dt p H v d->RelV v u -> ∃as,Reads s.heap u d as
 | _,_,_,.aD,r=>by cases r;exact⟨_,.none⟩
 | _,_,_,.bl b,r=>by cases r;exact⟨_,.bool b⟩
 | _,_,_,.int i,r=>by obtain⟨t,rfl⟩:=r;exact⟨_,.int i t⟩
 | _,_,_,.str x,r=>by obtain⟨t,rfl⟩:=r;exact⟨_,.str x t⟩
 | _,_,_,.lst (a:=a) (xs:=xs) _ e rs,r=>by
  cases r
  obtain⟨_,its,n,rv,at_⟩:=(show bt X.prog X.w H s.heap a (.lst xs) from I.ar a _ e)
  obtain⟨as,ra⟩:=eQ.reads I rs rv
  exact⟨_,.list at_ rfl rfl ra⟩
 | _,_,_,.tup (a:=a) (xs:=xs) _ e rs,r=>by
  cases r
  obtain⟨_,its,rv,ob,at_,hc,n,hd,_⟩:=(show bt X.prog X.w H s.heap a (.tup xs) from I.ar a _ e)
  obtain⟨as,ra⟩:=eQ.reads I rs rv
  exact⟨_,.tuple at_ hc hd ra⟩
 | _,_,_,.xq (a:=a) _ e,r=>by
  cases r
  obtain⟨_,_,vs,kv,o,es,ep,g1,g2,g3,_,g4,_⟩:=(show bt X.prog X.w H s.heap a (.dK []) from I.ar a _ e)
  cases kv
  have e0:es.toList = []:=by cases h:es.toList with
   | nil=>rfl
   | cons a b=>rw[h]at g4;cases g4
  exact⟨_,.dict (kvs:= []) g1 g2.1 g3 (by rw[e0];exact .nil) (by rw[e0];exact .nil)⟩
theorem eQ.reads (I:Inv X pins σ H s):∀ {vs:List V}{ds:List PyData}{us:List Value},eQ p H vs ds->Vals vs us -> ∃as,ReadsAll s.heap us ds as
 | _,_,_,.nil,r=>by cases r;exact⟨_,.nil⟩
 | _,_,_,.cons r rs,rv=>by
  cases rv with
  | cons q qs =>
   obtain⟨as,h1⟩:=Dt.reads I r q
   obtain⟨bs,h2⟩:=eQ.reads I rs qs
   exact⟨_,.cons h1 h2⟩
end
mutual
theorem Dt.vS (I:Inv X pins σ H s):∀ {v:V}{d:PyData}{u:Value},Dt p H v d->RelV v u->d.showable=true->d.shown.length<=sizeLine -> ∃bs,ReadAtMost s.heap d.depth bs/\ReprK X.prog X.w bs s.heap d.depth u d.shown
 | _,_,_,.aD,r,_,_=>by cases r;exact⟨[],(fun _ h=>nomatch h),by simp only[PyData.shown];exact .of_is ReprIs.none _ _ _⟩
 | _,_,_,.bl b,r,_,_=>by cases r;exact⟨[],(fun _ h=>nomatch h),by simp only[PyData.shown];exact .of_is (ReprIs.bool b) _ _ _⟩
 | _,_,_,.int i,r,hs,_=>by obtain⟨t,rfl⟩:=r;exact⟨[],(fun _ h=>nomatch h),by simp only[PyData.shown];exact .of_is (ReprIs.int t (by simpa [PyData.showable] using hs)) _ _ _⟩
 | _,_,_,.str x,r,_,hz=>by obtain⟨t,rfl⟩:=r;exact⟨[],(fun _ h=>nomatch h),by simp only[PyData.shown];exact .of_is (ReprIs.str x t (by simpa only [PyData.shown] using hz)) _ _ _⟩
 | _,_,_,.lst (a:=a) (xs:=xs) (ds:=ds) n e rs,r,hs,hz=>by
  cases r
  obtain⟨_,its,n',rv,h1⟩:=(show bt X.prog X.w H s.heap a (.lst xs) from I.ar a _ e)
  have xr:(listText (PyData.shownAll ds)).length<=sizeLine:=by simpa only [PyData.shown] using hz
  obtain⟨bs,hb,hk⟩:=eQ.vS I rs rv (by simpa [PyData.showable] using hs) (fun t ht=>cK (listText_mem_le ht) xr)
  obtain⟨as,ra⟩:=eQ.reads I rs rv
  have r:Reads s.heap (.ref a) (.list ds) _:= .list h1 rfl rfl ra
  have G3:a ∉ bs:=not_mem_of_deeper r (by simp only[PyData.depth];omega) hb
  refine⟨a::bs,T4 r (by simp only[PyData.depth];omega) hb,?_⟩
  simp only[PyData.depth,PyData.shown]
  cases its with
  | nil =>
   cases ra
   simp only[PyData.shownAll,listText_nil]
   exact ReprK.listEmpty h1 rfl rfl
  | cons x l=>exact ReprK.list h1 rfl rfl G3 (by simpa using hk.length_eq) (fun i y e=>hk.item i y (by simpa using e))
 | _,_,_,.tup (a:=a) (xs:=xs) (ds:=ds) n e rs,r,hs,hz=>by
  cases r
  obtain⟨_,its,rv,ob,h1,h2,n',h3,_⟩:=(show bt X.prog X.w H s.heap a (.tup xs) from I.ar a _ e)
  have xr:(tupleText (PyData.shownAll ds)).length<=sizeLine:=by simpa only [PyData.shown] using hz
  obtain⟨bs,hb,hk⟩:=eQ.vS I rs rv (by simpa [PyData.showable] using hs) (fun t ht=>cK (tupleText_mem_le ht) xr)
  obtain⟨as,ra⟩:=eQ.reads I rs rv
  have r:Reads s.heap (.ref a) (.tuple ds) _:= .tuple h1 h2 h3 ra
  have G3:a ∉ bs:=not_mem_of_deeper r (by simp only[PyData.depth];omega) hb
  refine⟨a::bs,T4 r (by simp only[PyData.depth];omega) hb,?_⟩
  simp only[PyData.depth,PyData.shown]
  exact ReprK.tuple h1 h2 h3 G3 hk
 | _,_,_,.xq (a:=a) n e,r,hs,hz=>by
  cases r
  obtain⟨as,rd⟩:=Dt.reads I (.xq n e) (rfl:RelV (.ref a) (.ref a))
  obtain⟨_,ns,vs,kv,o,es,ep,g1,g2,g3,_,g4,_⟩:=(show bt X.prog X.w H s.heap a (.dK []) from I.ar a _ e)
  cases kv
  have e0:es.toList = []:=by cases h:es.toList with
   | nil=>rfl
   | cons a b=>rw[h]at g4;cases g4
  refine⟨a :: [],T4 rd (a4 _) (fun _ h=>nomatch h),?_⟩
  exact ReprK.dict (as:= []) (d:=0) (ps:= []) g1 g2.1 g3 ns (by simp) (by rw[e0];exact .nil)
theorem eQ.vS (I:Inv X pins σ H s):∀ {vs:List V}{ds:List PyData}{us:List Value},eQ p H vs ds->Vals vs us->PyData.showableAll ds=true->(∀t∈PyData.shownAll ds,t.length<=sizeLine) ->
  ∃bs,ReadAtMost s.heap (PyData.depthAll ds) bs/\ReprAllK X.prog X.w bs s.heap (PyData.depthAll ds) us (PyData.shownAll ds)
 | _,_,_,.nil,r,_,_=>by cases r;exact⟨[],(fun _ h=>nomatch h),by simp only[PyData.shownAll];exact .nil⟩
 | _,_,_,.cons (d:=d) (ds:=ds) r rs,rv,hs,hz=>by
  cases rv with
  | cons q qs =>
   have i':d.showable=true/\PyData.showableAll ds=true:=by simpa [PyData.showableAll] using hs
   obtain⟨b1,gB,k1⟩:=Dt.vS I r q i'.1 (hz _ (by simp only[PyData.shownAll];exact ba ..))
   obtain⟨b2,nu,k2⟩:=eQ.vS I rs qs i'.2 (fun t ht=>hz t (by simp only[PyData.shownAll];exact bU _ ht))
   refine⟨b1++b2,?_,?_⟩
   ·simp only[PyData.depthAll]
    exact(gB.mono (Nat.le_max_left _ _)).append (nu.mono (Nat.le_max_right _ _))
   ·simp only[PyData.depthAll,PyData.shownAll]
    exact .cons ((k1.more fun b hb=>jf _ hb).level_le (Nat.le_max_left _ _)) (k2.more_le (fun b hb=>eU _ hb) (Nat.le_max_right _ _))
end
end
end L2
namespace L2
open PySem PySem.Spec PyProof.Rows PySem.W HT
end L2
namespace L2
open PySem PySem.Spec PyProof.Rows PySem.W HT
section
variable {X : Cx}
theorem Va (hc:X.calm=true):df X (.type "dict") (fun xs H Q=>∃t vs kvs,xs = [.ref t]/\H t=some (.tup vs)/\lC H vs kvs/\(kvs.map (·.1)).Nodup /\ ∀d,H d=none->Q (.ref d) (upd H d (.dK (qe kvs)))):=by
 intro pins s σ H xs us Q I r h
 obtain⟨t,vs,kvs,rfl,ht,pr,nd,q⟩:=h
 obtain⟨u,rfl,ru⟩:=vals1 r
 cases ru
 obtain⟨hz,its,rv,⟨cl,dd,dt,sl⟩,ho,gM,n,Gx,k6⟩:=(show bt X.prog X.w H s.heap t (.tup vs) from I.ar t _ ht)
 obtain rfl:cl = .type "tuple" :=gM
 obtain rfl:dd=none:=k6
 obtain rfl:dt = .seq its.toArray n:=Gx
 have gC:vs.length=kvs.length:=ll pr
 have iO:=rv.length
 have pairs:∀ (i:Nat) p,kvs[i]? = some p -> ∃a x y,its.toArray[i]? = some (.ref a)/\IsTup s.heap a #[x,y]/\RelV (.str p.1) x/\RelV p.2 y:=by
  intro i p hp
  have hi:i < vs.length:=by rw[gC];exact(b9.mp hp).1
  obtain⟨p',lU,a,ey,ha⟩:=jR pr (show vs[i]? = some vs[i] from br hi)
  rw[hp]at lU;cases lU
  obtain⟨u,hu,ru⟩:=rv.get (show vs[i]? = some (V.ref a) by rw[br hi,ey])
  cases ru
  obtain⟨i2,r2,t2,_⟩:=I.tuple (aJ.of ha)
  obtain⟨x,y,rfl,rx,ry⟩:=r2.two
  exact⟨a,x,y,by simpa using hu,t2,rx,ry⟩
 have ch:∀i:Fin kvs.length,∃y,∃a x,its.toArray[i.1]? = some (.ref a)/\IsTup s.heap a #[x,y]/\RelV (.str kvs[i].1) x/\RelV kvs[i].2 y:=fun i=>by
  obtain⟨a,x,y,h1,h2,h3,h4⟩:=pairs i.1 kvs[i] (br i.2)
  exact⟨y,a,x,h1,h2,h3,h4⟩
 obtain⟨ys,hyl,Qj⟩:∃ys:List Value,ys.length=kvs.length /\ ∀ (i:Nat) (hi:i < kvs.length),∃y,ys[i]? = some y /\ ∃a x,its.toArray[i]? = some (.ref a)/\IsTup s.heap a #[x,y]/\RelV (.str kvs[i].1) x/\RelV kvs[i].2 y:=
  ⟨List.ofFn fun i=>Classical.choose (ch i),List.length_ofFn,fun i hi=>⟨Classical.choose (ch ⟨i,hi⟩),by simp[List.getElem?_ofFn,hi],ali (ch ⟨i,hi⟩)⟩⟩
 have kps:((kvs.map fun p=>(Sum.inr p.1:Key)).zip ys).map (·.1)=kvs.map fun p=>(Sum.inr p.1:Key):=by
  rw[List.map_fst_zip];rw[aE];omega
 have Qk:((kvs.map fun p=>(Sum.inr p.1:Key)).zip ys).length=kvs.length:=by rw[List.length_zip,aE];omega
 have inj:(kvs.map fun p=>(Sum.inr p.1:Key)).Nodup:=by
  have:(kvs.map fun p=>(Sum.inr p.1:Key))=(kvs.map (·.1)).map Sum.inr:=by rw[nO];rfl
  rw[this,alj,AX]
  exact(alj.mp nd).imp fun h z=>h (xY z)
 refine Ur (I.ok.hd hc) ((kvs.map fun p=>(Sum.inr p.1:Key)).zip ys) (by rw[kps];exact inj) (by rw[Qk];omega) (by rw[cL,Qk];omega) ho (fun i p hp=>?_) fun d h' tk dl dd kp=>?_
 ·obtain⟨h1,h2⟩:=alk.mp hp
  rw[f6]at h1
  obtain⟨kv,hk,ek⟩:=iS.mp h1
  obtain⟨hi,rfl⟩:=b9.mp hk
  obtain⟨y,hy,a,x,g1,g2,g3,g4⟩:=Qj i hi
  rw[hy]at h2
  cases h2
  exact⟨a,x,g1,g2,by rw[<-ek];exact sR (k:=Sum.inr kvs[i].1) g3⟩
 ·have big:=I.big
  refine⟨.ref d,_,I.laid (a:=d) (o:= .dK (qe kvs)) (t':=tk) kp dl (M0 (by unfold qe;rw[aE];omega) (nI.mpr (aO (bh (fZ big dl)))) ?_ dd),rfl,q d (I.ar.fresh dl)⟩
  exact Mx kvs ys hyl fun i hi=>by
   obtain⟨y,hy,a,x,_,_,_,g4⟩:=Qj i hi
   exact⟨y,hy,g4⟩
end
end L2
namespace L2
open PySem PySem.W
end L2
namespace L2
open PySem PySem.W PySem.Calls PyProof.Rows
structure kz (n:Nat) (lt:Nat->Nat->Bool):Prop where
 tr:∀i j k,i < n->j < n->k < n->lt i j=true->lt j k=true->lt i k=true
 GX:∀i j,i < n->j < n->i≠j->lt i j=false->lt j i=true
def cX {α:Type} (n:Nat) (lt:Nat->Nat->Bool) (φ:α->Prop):KasT α->Prop
 | .ret a=>φ a
 | .ask i j k=>i < n/\j < n/\i≠j/\cX n lt φ (k (lt i j))
section
variable {α β : Type} {n : Nat} {lt : Nat -> Nat -> Bool}
theorem cX.bind {φ:α->Prop}{ψ:β->Prop}{f:α->KasT β} (g:∀a,φ a->cX n lt ψ (f a)):∀ {t:KasT α},cX n lt φ t->cX n lt ψ (t.bind f)
 | .ret a,h=>g a h
 | .ask _ _ _,h=>⟨h.1,h.2.1,h.2.2.1,cX.bind g h.2.2.2⟩
theorem cX.wp {φ:α->Prop}{cmp:Nat->Nat->(Bool->Shared->Prop)->Shared->Prop}{Q:α->Shared->Prop}{s:Shared} (hc:∀i j C,i < n->j < n->i≠j->C (lt i j) s->cmp i j C s):∀ {t:KasT α},cX n lt φ t->(∀a,φ a->Q a s)->t.kasWp cmp Q s
 | .ret a,h,q=>q a h
 | .ask _ _ _,h,q=>hc _ _ _ h.1 h.2.1 h.2.2.1 (cX.wp hc h.2.2.2 q)
theorem cX.mono {φ ψ:α->Prop} (g:∀a,φ a->ψ a):∀ {t:KasT α},cX n lt φ t->cX n lt ψ t
 | .ret a,h=>g a h
 | .ask _ _ _,h=>⟨h.1,h.2.1,h.2.2.1,cX.mono g h.2.2.2⟩
theorem CJ {p:Array Nat} (O:kz n lt) (h:Pm n p) {i j:Nat} (hi:i < n) (hj:j < n) (e:i≠j) (f:lt (p.getD i 0) (p.getD j 0)=false):lt (p.getD j 0) (p.getD i 0)=true:=
 O.GX _ _ (h.lt (by omega) i) (h.lt (by omega) j) (h.ne hi hj e) f
theorem VN {p:Array Nat} (O:kz n lt) (h:Pm n p) {m:Nat} (h1:1<=m) (hm:m < n) (a:fU lt p m) (l:lt (p.getD (m - 1) 0) (p.getD m 0)=true):fU lt p (m+1):=fun i j cT hj=>by
 by_cases e:j < m
 ·exact a i j cT e
 ·obtain rfl:j=m:=by omega
  by_cases e2:i=j - 1
  ·rw[e2];exact l
  ·exact O.tr _ _ _ (h.lt (by omega) _) (h.lt (by omega) _) (h.lt (by omega) _) (a i (j - 1) (by omega) (by omega)) l
theorem VO {p:Array Nat} (O:kz n lt) (h:Pm n p) {m:Nat} (h1:1<=m) (hm:m < n) (a:iP lt p m) (l:lt (p.getD m 0) (p.getD (m - 1) 0)=true):iP lt p (m+1):=fun i j cT hj=>by
 by_cases e:j < m
 ·exact a i j cT e
 ·obtain rfl:j=m:=by omega
  by_cases e2:i=j - 1
  ·rw[e2];exact l
  ·exact O.tr _ _ _ (h.lt (by omega) _) (h.lt (by omega) _) (h.lt (by omega) _) l (a i (j - 1) (by omega) (by omega))
theorem BS {p:Array Nat} (O:kz n lt) (h:Pm n p):∀ (f m:Nat),1<=m->m+f<=n->fU lt p m->cX n lt (fun r=>m<=r/\r<=m+f/\fU lt p r/\(r < m+f->lt (p.getD r 0) (p.getD (r - 1) 0)=true)) (kas_asc p f m)
 | 0,m,h1,h2,a=>⟨aN _,aN _,a,fun z=>absurd z (by omega)⟩
 | f+1,m,h1,h2,a=>⟨h.lt (by omega) _,h.lt (by omega) _,h.ne (by omega) (by omega) (by omega),by
  cases c:lt (p.getD m 0) (p.getD (m - 1) 0) with
  | true=>exact⟨aN _,by omega,a,fun _=>c⟩
  | false =>
   refine cX.mono (fun r hr=>?_) (BS O h f (m+1) (by omega) (by omega) (VN O h h1 (by omega) a (CJ O h (by omega) (by omega) (by omega) c)))
   exact⟨by omega,by omega,hr.2.2.1,fun z=>hr.2.2.2 (by omega)⟩⟩
theorem Lq {p:Array Nat} (O:kz n lt) (h:Pm n p):∀ (f m:Nat),1<=m->m+f<=n->iP lt p m->cX n lt (fun r:Array Nat×Nat×Nat=>r.1=p/\r.2.2=0/\m<=r.2.1/\r.2.1<=m+f/\iP lt p r.2.1) (kas_desc f p m 0)
 | 0,m,h1,h2,a=>⟨rfl,rfl,aN _,aN _,a⟩
 | f+1,m,h1,h2,a=>⟨h.lt (by omega) _,h.lt (by omega) _,h.ne (by omega) (by omega) (by omega),by
  cases c:lt (p.getD m 0) (p.getD (m - 1) 0) with
  | true =>
   show cX n lt _ (if 0 > 0 then kas_desc f (kas_rev p (m - (0+1)) m) (m+1) 0 else kas_desc f p (m+1) 0)
   rw[aq (by omega)]
   refine cX.mono (fun r hr=>?_) (Lq O h f (m+1) (by omega) (by omega) (VO O h h1 (by omega) a c))
   exact⟨hr.1,hr.2.1,by omega,by omega,hr.2.2.2.2⟩
  | false =>
   refine⟨h.lt (by omega) _,h.lt (by omega) _,h.ne (by omega) (by omega) (by omega),?_⟩
   rw[CJ O h (by omega) (by omega) (by omega) c]
   exact⟨rfl,rfl,aN _,yh _ _,a⟩⟩
def y8 (n:Nat) (lt:Nat->Nat->Bool) (r:Nat×Array Nat):Prop:=Pm n r.2/\fU lt r.2 r.1/\1<=r.1/\r.1<=n
theorem Vb {p:Array Nat} (O:kz n lt) (h:Pm n p) {m:Nat} (h1:1<=m) (h2:m<=n) (a:iP lt p m):cX n lt (y8 n lt) (kas_tail3 m n p):=
 cX.bind (ψ:=y8 n lt) (f:=fun k=>.ret (k,kas_rev p 0 m)) (fun r hr=>(show y8 n lt (r,kas_rev p 0 m) from⟨h.rev _ _,hr.2.2.1,cK h1 hr.1,by have:=hr.2.1;show r<=n;omega⟩)) (BS O (h.rev 0 m) (n - m) m h1 (by omega) (a.rev (by rw[h.size];exact h2)))
theorem Vc {p:Array Nat} (O:kz n lt) (hn:2<=n) (h:Pm n p):cX n lt (y8 n lt) (kas_count n p):=
 (BS O h (n - 1) 1 (aN _) (by omega) (fun i j cT hj=>absurd hj (by omega))).bind fun m hm=>by
  obtain⟨m1,m2,ma,ml⟩:=hm
  show cX n lt _ (if (m==n)=true then _ else if m > 1 then _ else _)
  split
  ·rename_i e
   have:m=n:=by simpa using e
   subst this
   exact⟨h,ma,m1,aN _⟩
  ·rename_i e
   have ne:m≠n:=by simpa using e
   split
   ·rename_i g
    refine⟨h.lt (by omega) _,h.lt (by omega) _,h.ne (by omega) (by omega) (by omega),?_⟩
    rw[ma 0 (m - 1) (by omega) (by omega)]
    exact⟨h,ma,m1,by omega⟩
   ·obtain rfl:m=1:=by omega
    have l:=ml (by omega)
    have d2:iP lt p 2:=fun i j cT hj=>by
     obtain rfl:j=1:=by omega
     obtain rfl:i=0:=by omega
     exact l
    refine cX.bind (fun r hr=>?_) (Lq O h (n - (1+1)) (1+1) (by omega) (by omega) d2)
    obtain⟨r1,r2,r3,r4,r5⟩:=hr
    show cX n lt _ (if r.2.2 > 0 then _ else _)
    rw[aq (by omega),r1]
    exact Vb O h (by omega) (by omega) r5
theorem Bi {p:Array Nat} (O:kz n lt) (h:Pm n p) {k:Nat} (hk:k < n) (a:fU lt p k):∀ (f l r:Nat),r - l<=f->l<=r->r<=k->(∀i,i < l->lt (p.getD i 0) (p.getD k 0)=true)->(∀i,r<=i->i < k->lt (p.getD k 0) (p.getD i 0)=true) ->
  cX n lt (fun m=>m<=k/\(∀i,i < m->lt (p.getD i 0) (p.getD k 0)=true) /\ ∀i,m<=i->i < k->lt (p.getD k 0) (p.getD i 0)=true) (kas_place p k f l r)
 | 0,l,r,hf,hl,hr,lo,hi=>by
  obtain rfl:l=r:=by omega
  exact⟨hr,lo,hi⟩
 | f+1,l,r,hf,hl,hr,lo,hi=>by
  show cX n lt _ (if l ≥ r then _ else _)
  split
  ·obtain rfl:l=r:=by omega
   exact⟨hr,lo,hi⟩
  ·refine⟨h.lt (by omega) _,h.lt (by omega) _,h.ne (by omega) (by omega) (by omega),?_⟩
   cases c:lt (p.getD k 0) (p.getD ((l+r) / 2) 0) with
   | true =>
    refine Bi O h hk a f l ((l+r) / 2) (by omega) (by omega) (by omega) lo fun i qX GZ=>?_
    by_cases e:i=(l+r) / 2
    ·rw[e];exact c
    ·exact O.tr _ _ _ (h.lt (by omega) _) (h.lt (by omega) _) (h.lt (by omega) _) c (a _ i (by omega) GZ)
   | false =>
    have c2:=CJ O h (i:=k) (j:=(l+r) / 2) hk (by omega) (by omega) c
    refine Bi O h hk a f ((l+r) / 2+1) r (by omega) (by omega) hr (fun i qX=>?_) hi
    by_cases e:i=(l+r) / 2
    ·rw[e];exact c2
    ·exact O.tr _ _ _ (h.lt (by omega) _) (h.lt (by omega) _) (h.lt (by omega) _) (a i _ (by omega) (by omega)) c2
theorem L4 (O:kz n lt):∀ (f:Nat) (p:Array Nat) (k:Nat),k+f=n->Pm n p->fU lt p k->cX n lt (fun r=>Pm n r/\fU lt r n) (kas_bin f p k)
 | 0,p,k,e,h,a=>by
  obtain rfl:k=n:=by omega
  exact⟨h,a⟩
 | f+1,p,k,e,h,a=>(Bi O h (by omega) a k 0 k (by omega) (a4 _) (aN _) (fun i hi=>absurd hi (AU _)) (fun i h1 h2=>absurd h2 (by omega))).bind fun l hl=>by
  obtain⟨l1,l2,l3⟩:=hl
  refine L4 O f _ _ (by omega) (h.Qg _ _) fun i j cT hj=>?_
  have hsz:=h.size
  rw[yE (by omega) l1 i,yE (by omega) l1 j]
  by_cases i1:i=l
  ·rw[aA i1,aq (by omega),aA (by omega)]
   exact l3 _ (by omega) (by omega)
  ·rw[aq i1]
   by_cases i2:l < i/\i<=k
   ·rw[aA i2,aq (by omega),aA (by omega)]
    exact a _ _ (by omega) (by omega)
   ·rw[aq i2]
    by_cases j1:j=l
    ·rw[aA j1];exact l2 i (by omega)
    ·rw[aq j1]
     by_cases j2:l < j/\j<=k
     ·rw[aA j2]
      exact a _ _ (by omega) (by omega)
     ·rw[aq j2]
      exact a _ _ cT (by omega)
theorem VP (O:kz n lt) (hn:2<=n):cX n lt (fun r=>Pm n r/\fU lt r n) (kas_sort n):=
 (Vc O hn (uY _)).bind fun r hr=>by
  obtain⟨r1,r2,r3,r4⟩:=hr
  show cX n lt _ (if r.1 < n then _ else _)
  split
  ·refine L4 O _ _ _ (by omega) r1 ?_
   rw[show max r.1 1=r.1 by omega];exact r2
  ·obtain e:r.1=n:=by omega
   rw[e]at r2
   exact⟨r1,r2⟩
end
end L2
namespace L2
open PySem PySem.W PySem.Calls PyProof.Rows HS
def hJ:List Str->List Str->Bool
 | a::as,b::bs=>if a=b then hJ as bs else gN a b
 | _,_=>false
theorem M5:∀ {a b c:List Str},a.length=b.length->b.length=c.length->hJ a b=true->hJ b c=true->hJ a c=true
 | [],_,_,h1,_,h,_=>by unfold hJ at h;cases h
 | a::as,[],_,h1,_,_,_=>by simp at h1
 | a::as,b::bs,[],_,h2,_,_=>by simp at h2
 | a::as,b::bs,c::cs,h1,h2,h3,h4=>by
  unfold hJ at h3 h4 ⊢
  by_cases e1:a=b
  ·rw[aA e1]at h3
   subst e1
   by_cases e2:a=c
   ·rw[aA e2]at h4 ⊢;exact M5 (by simpa using h1) (by simpa using h2) h3 h4
   ·rw[aq e2]at h4 ⊢;exact h4
  ·rw[aq e1]at h3
   by_cases e2:b=c
   ·subst e2
    rw[aq e1];exact h3
   ·rw[aq e2]at h4
    have t:=Ck h3 h4
    by_cases e3:a=c
    ·subst e3;rw[yF]at t;cases t
    ·rw[aq e3];exact t
theorem MD:∀ {a b:List Str},a.length=b.length->a≠b->hJ a b=false->hJ b a=true
 | [],[],_,h,_=>absurd rfl h
 | [],b::bs,h,_,_=>by simp at h
 | a::as,[],h,_,_=>by simp at h
 | a::as,b::bs,h1,h2,h3=>by
  unfold hJ at h3 ⊢
  by_cases e:a=b
  ·subst e
   rw[aA rfl]at h3 ⊢
   exact MD (by simpa using h1) (fun z=>h2 (by rw[z])) h3
  ·rw[aq e]at h3;rw[aq (aO e)]
   exact MC e h3
theorem XC (a b:Str):hJ [a] [b]=gN a b:=by
 unfold hJ
 by_cases e:a=b
 ·rw[aA e,e,yF];rfl
 ·rw[aq e]
section
variable {P : Program} {w : World} {A : Around} {E : Value -> Shared -> Prop} {s : Shared}
theorem VQ {a b:Str}{t u:Tok}{c:Bool}{Q:Bool->Shared->Prop} (h:Q (gN a b) s):wpAny (model P w) A (oneLt' c (.str a t) (.str b u)) Q E s:=by
 cases c with
 | true=>exact oneLt_str h
 | false =>
  rw[oneLt'_eq]
  simp only[AG,uU]
  exact af (PyProof.Rows.lt_str (lq h))
theorem Lr {b fin:Bool}{Q:Bool->Shared->Prop}:∀ {as bs:List Str}{us vs:List Value}{ru rv:List Value} (i:Nat),StrsAre us as->StrsAre vs bs->as.length=bs.length->as≠bs->Q (hJ as bs) s->KatLex P w A b fin Q ((us++ru).zip (vs++rv)) i s
 | [],[],_,_,_,_,_,_,_,_,h,_=>absurd rfl h
 | [],_::_,_,_,_,_,_,_,_,h,_,_=>by simp at h
 | _::_,[],_,_,_,_,_,_,_,h,_,_=>by simp at h
 | a::as,b'::bs,_,_,ru,rv,i,.cons _ t h1,.cons _ u h2,hl,bc,q=>by
  unfold hJ at q
  refine kat_cons (S' ?_)
  by_cases e:a=b'
  ·rw[gO e]
   rw[aA e]at q
   exact kat_yes (Lr (i+1) h1 h2 (by simpa using hl) (fun z=>bc (by rw[e,z])) q)
  ·rw[je e]
   rw[aq e]at q
   exact kat_no (VQ q)
end
def vE (H:Hp) (m:Nat) (vs:List V) (kvs:List (List Str×List V)):Prop:=Paired (fun y p=>∃a,y=V.ref a/\H a=some (.tup (p.1.map V.str++p.2))/\p.1.length=m) vs kvs
theorem KR {H:Hp}:∀ {ks:List Str}{rest:List V}{its:List Value},Vals (ks.map V.str++rest) its -> ∃us ru,its=us++ru/\StrsAre us ks
 | [],rest,its,h=>⟨[],its,rfl,.nil⟩
 | k::ks,rest,its,h=>by
  cases h with
  | cons r t =>
   obtain⟨tk,rfl⟩:=r
   obtain⟨us,ru,e,st⟩:=KR (H:=H) t
   exact⟨.str k tk::us,ru,by rw[e];rfl,.cons k tk st⟩
section
variable {X : Cx}
theorem UA:df X (.builtin "sorted") (fun xs H Q=>∃ (p:Addr) (ys:List V) (kvs:List (List Str×List V)) (m:Nat),xs = [.ref p]/\(aj X.K H p ys\/aJ X.K H p ys)/\vE H m ys kvs/\1<=m/\(kvs.map (·.1)).Nodup/\ys.length<=63 /\
  ∀D eg dw,H D=none->eg.Perm ys->vE H m eg dw->dw.Perm kvs->(dw.map (·.1)).Pairwise (fun a b=>hJ a b=true)->Q (.ref D) (upd H D (.lst eg))):=by
 intro pins s σ H xs us Q I r ⟨p,ys,kvs,mm,ex,hq,pr,hm1,nd,qV,q⟩
 subst ex
 obtain⟨u,rfl,rx⟩:=vals1 r
 cases rx
 obtain⟨its,rv,hz,col⟩:∃its:List Value,Vals ys its/\ys.length<=sizeLine /\ ∀ (A:Around) (E:Value->Shared->Prop) (Q':List Value->Shared->Prop),(∀h',(∀b o,s.heap.get? b=some o->h'.get? b=some o)->Q' its { s with heap:=h' })->wpAny (model X.prog X.w) A (collect (.ref p)) Q' E s:=by
  rcases hq with hq | hq
  ·obtain⟨its,rv,pl,hz⟩:=I.list hq
   have:=rv.length
   refine⟨its,rv,hz,fun A E Q' q'=>collect_list pl.isList (q' _ fun b o e=>?_) (by rw[aI];omega)⟩
   exact(jg _ _ (uT (aU e))).trans (bj _ e)
  ·obtain⟨its,rv,pl,hz⟩:=I.tuple hq
   have:=rv.length
   exact⟨its,rv,hz,fun A E Q' q'=>UR pl (by rw[aI];omega) q'⟩
 have gC:ys.length=kvs.length:=ll pr
 have iO:=rv.length
 have at_:∀ (i:Nat),i < its.length -> ∃ (ks:List Str) (a:Addr) (tu ru:List Value),(kvs.map (·.1))[i]? = some ks/\its[i]? = some (.ref a)/\a≠X.env.locals/\IsTup s.heap a (tu++ru).toArray/\StrsAre tu ks/\ks.length=mm:=by
  intro i hi
  have qY:i < ys.length:=by omega
  obtain⟨p',lU,a,ey,ha,hlm⟩:=jR pr (show ys[i]? = some ys[i] from br qY)
  obtain⟨u,hu,ru⟩:=rv.get (show ys[i]? = some (V.ref a) by rw[br qY,ey])
  cases ru
  obtain⟨i2,r2,t2,_⟩:=I.tuple (aJ.of ha)
  obtain⟨tu,ru,e,st⟩:=KR (H:=H) r2
  rw[e]at t2
  exact⟨p'.1,a,tu,ru,by rw[f6,lU];rfl,hu,(fun z=>by rw[z,I.free]at ha;cases ha),t2,st,hlm⟩
 obtain⟨m,hm,_⟩:=id I.loc
 let lt:Nat->Nat->Bool:=fun i j=>hJ ((kvs.map (·.1)).getD i []) ((kvs.map (·.1)).getD j [])
 have kl:(kvs.map (·.1)).length=its.length:=by rw[aE];omega
 have tG:∀i,i < its.length->((kvs.map (·.1)).getD i []).length=mm:=fun i hi=>by
  obtain⟨ks,_,_,_,h1,_,_,_,_,h2⟩:=at_ i hi
  rw[d4,h1];exact h2
 have Ql:∀i j,i < its.length->j < its.length->i≠j->(kvs.map (·.1)).getD i []≠(kvs.map (·.1)).getD j []:=fun i j hi hj cT e=>cT ((AV (by omega) nd).mp (by
  rw[d4,d4,br (by omega),br (by omega)]at e
  rw[br (by omega),br (by omega)]
  exact eT some e))
 have O:kz its.length lt:=⟨fun i j k hi hj hk h1 h2=>M5 ((tG i hi).trans (tG j hj).symm) ((tG j hj).trans (tG k hk).symm) h1 h2,fun i j hi hj cT f=>MD ((tG i hi).trans (tG j hj).symm) (Ql i j hi hj cT) f⟩
 have fin:∀ (h':Heap) (D:Addr) (c:Nat) (pa:Array Nat),(∀b o,b≠X.env.locals->s.heap.get? b=some o->h'.get? b=some o)->h'.Ns X.env.locals m->(∀b o,s.heap.get? b=some o->b≠D)->Pm its.length pa->(pa.toList.Pairwise fun i j=>lt i j=true) ->
   h'.get? D=some (listOf (pa.toList.map fun i=>its.getD i Value.none).toArray c) -> ∃v H',Inv X pins σ H' { s with heap:=h' }/\RelV v (.ref D)/\Q v H':=by
  intro h' D c pa k gZ hD hp xl new
  have xm:∀i∈pa.toList,i < its.length:=fun i hi=>l8.mp (hp.mem_iff.mp hi)
  have py:(pa.toList.map fun i=>ys.getD i V.aD).Perm ys:=yQ V.aD (by rw[iO];exact hp)
  have jb:Pm kvs.length pa:=by rw[<-gC,iO];exact hp
  have pk:(pa.toList.map fun i=>kvs.getD i (([],[]):List Str×List V)).Perm kvs:=yQ _ jb
  have pp:vE H mm (pa.toList.map fun i=>ys.getD i V.aD) (pa.toList.map fun i=>kvs.getD i ([],[])):=Bh fun i hi=>Lp pr V.aD ([],[]) i (by have:=xm i hi;omega)
  have ek:(pa.toList.map fun i=>kvs.getD i ([],[])).map (·.1)=pa.toList.map fun i=>(kvs.map (·.1)).getD i []:=by
   rw[nO]
   refine AW fun i hi=>?_
   have:i < kvs.length:=by have:=xm i hi;omega
   show(kvs.getD i ([],[])).1=_
   rw[d4,d4,f6,br this];rfl
  have rel:Vals (pa.toList.map fun i=>ys.getD i V.aD) (pa.toList.map fun i=>its.getD i Value.none):=By (fun i=>by
   by_cases hi:i < ys.length
   ·obtain⟨u,hu,ru⟩:=rv.get (show ys[i]? = some ys[i] from br hi)
    rw[d4,d4,hu,br hi];exact ru
   ·rw[d4,d4,AR (by omega),AR (by omega)];trivial) pa.toList
  obtain⟨hn,I'⟩:=Inv.sorted (t':=s.toks) I hm gZ k hD new rel (by rw[py.length_eq];exact hz)
  refine⟨.ref D,_,I',rfl,q D _ _ hn py pp pk ?_⟩
  rw[ek,AX];exact xl
 refine TY kind_sorted plain_sorted entry_sorted (args_sorted1 _) ?_
 unfold Builtin.«sorted»
 refine af (m:=checkCount "sorted" 1 1 _) (aB (af (col _ _ _ fun h1 k1=>?_)))
 refine af (yf ?_ (by rw[aI];omega))
 have gk:(h1.push (seqObj "list" its.toArray 0)).get? h1.objs.size=some (seqObj "list" its.toArray 0):=dj _ rfl
 have hD:∀b o,s.heap.get? b=some o->b≠h1.objs.size:=fun b o e=>bh (aU (k1 b o e))
 refine af (dX (yg slot_list_sort ⟨_,gk,rfl⟩ entry_list_sort ?_ (args_list_sort _)))
 have keep:∀b o,s.heap.get? b=some o->(h1.push (seqObj "list" its.toArray 0)).get? b=some o:=fun b o e=>bj _ (k1 b o e)
 by_cases h2:its.length < 2
 ·refine Lo gk h2 fun c g kg new=>⟨_,rfl,aB ⟨_,rfl,?_⟩⟩
  refine fin g _ c (List.range its.length).toArray (fun b o _ e=>kg b o (hD b o e) (keep b o e)) (hm.at' fun o e=>kg _ o (hD _ o e) (keep _ o e)) hD (uY _) ?_ ?_
  ·show(List.range its.length).Pairwise _
   have:its.length=0\/its.length=1:=by omega
   rcases this with z | z <;> rw[z]
   ·exact List.Pairwise.nil
   ·exact alc _ _
  ·have:(List.range its.length).map (fun i=>its.getD i Value.none)=its:=by
    apply TV
    ·simp
    ·intro i h1 h2;simp[List.getD,h2]
   show g.get? h1.objs.size=some (listOf ((List.range its.length).map fun i=>its.getD i Value.none).toArray c)
   rw[this];exact new
 ·have h2:2<=its.length:=by omega
  obtain⟨g0,xk,j0⟩:∃g0:Heap,g0.objs.size=0 /\ ∀b,g0.get? b=none:=⟨{ s.heap with objs:= #[] },rfl,fun b=>uQ (a4 _)⟩
  have F:Fr g0 X.env.locals s.heap m:=⟨hm,fun b o e=>(by rw[j0]at e;cases e),by rw[xk];exact a4 _⟩
  have N:=BJ (g:=g0) (L:=X.env.locals) (h:=s.heap)
  have hLo:∃o,s.heap.get? X.env.locals=some o:=let ⟨o,_,_,e,_⟩:=hm;⟨o,e⟩
  obtain⟨oL,eL⟩:=hLo
  refine kat_list_sort (s:={ s with heap:=h1.push (seqObj "list" its.toArray 0) }) (F.kept keep) (N.grown keep) gk (aO (hD _ _ eL)) (j0 _) (fun p hp=>hD p.1 p.2 (yi hp).2.2) h2 (by omega) fun e1 h' F' N'=>?_
  have kp:∀b o,b≠X.env.locals->s.heap.get? b=some o->h'.get? b=some o:=fun b o n e=>(N' (b,o) (bU _ (rP n (j0 b) e))).1
  have tk:∀ {a:Addr}{zs:Array Value},a≠X.env.locals->IsTup s.heap a zs->IsTup h' a zs:=fun n ⟨o,ho,r⟩=>⟨o,kp _ o n ho,r⟩
  have ft:∀ (vs:List Value),(∀v∈vs,∃a tu ru ks,v=Value.ref a/\IsTup h' a (tu++ru).toArray/\StrsAre tu ks/\ks.length=mm) -> ∃fs,fs.length=vs.length/\KatTups h' vs fs /\ ∀f∈fs,∃k t,f=Value.str k t:=by
   intro vs
   induction vs with
   | nil=>intro _;exact⟨[],rfl,KatTups.nil,fun f hf=>(by cases hf)⟩
   | cons v vs ih =>
    intro hv
    obtain⟨fs,f1,f2,f3⟩:=ih fun v' h'=>hv v' (bU _ h')
    obtain⟨a,tu,ru,ks,rfl,⟨o,ho,hc,n,hd⟩,st,hkm⟩:=hv v ba
    cases st with
    | nil=>simp at hkm;omega
    | cons k t r =>
     refine⟨.str k t::fs,by rw[dZ,dZ,f1],KatTups.cons ho hc hd (by simp) f2,fun f hf=>?_⟩
     rcases bq.mp hf with z | z
     ·exact⟨k,t,z⟩
     ·exact f3 f z
  obtain⟨fs,j3,lb,eJ⟩:=ft its fun v hv=>by
   obtain⟨i,hi,rfl⟩:=AO hv
   obtain⟨ks,a,tu,ru,_,g2,g3,g4,g5,g6⟩:=at_ i hi
   rw[br hi]at g2
   exact⟨a,tu,ru,ks,gF g2,tk g3 g4,g5,g6⟩
  refine kat_kind (T:= .type "str") lb (by omega) (fun f hf=>?_) (by decide) ?_
  ·obtain⟨k,t,rfl⟩:=eJ f hf
   exact Looks.of_pure rfl
  ·refine(VP O h2).wp (fun i j C hi hj cT hC=>?_) fun pa hp=>?_
   ·obtain⟨k,a,tu,ru,g1,g2,g3,g4,g5,g6⟩:=at_ i hi
    obtain⟨k',a',tu',ru',z5,xo,uy,G0,g5',g6'⟩:=at_ j hj
    unfold kas_ask
    rw[d4,d4,g2,xo]
    have ei:(kvs.map (·.1)).getD i []=k:=by rw[d4,g1];rfl
    have ej:(kvs.map (·.1)).getD j []=k':=by rw[d4,z5];rfl
    have el:lt i j=hJ k k':=by show hJ ((kvs.map (·.1)).getD i []) ((kvs.map (·.1)).getD j [])=_;rw[ei,ej]
    have ne:=Ql i j hi hj cT
    rw[ei,ej]at ne
    rw[el]at hC
    obtain⟨ox,hx,_,nx,dx⟩:=tk g3 g4
    obtain⟨oy,hy,_,ny,dy⟩:=tk uy G0
    exact kat_lt hx dx hy dy (Lr 0 g5 g5' (g6.trans g6'.symm) ne hC)
   ·refine KasFin.intro F' N' (UpdF.head fun p hp=>?_) fun ir c G2 xp=>?_
    ·exact hD p.1 p.2 (yi hp).2.2
    ·refine⟨_,rfl,aB ⟨_,rfl,?_⟩⟩
     exact fin ir _ c pa (fun b o n e=>(xp (b,o) (bU _ (rP n (j0 b) e))).1) G2.ns hD hp.1 (M4 hp.1.size hp.2) (xp _ ba).1
end
end L2
namespace HS
open PySem PySem.Spec PyProof.Rows PySem.W
end HS
namespace L2
open PySem PySem.Spec PyProof.Rows PySem.W HS
end L2
namespace L2
open PySem PySem.W PySem.Spec PyProof.Rows
end L2
namespace L2
open PySem PySem.W
end L2
namespace L2
open PySem PySem.W PySem.Spec PyProof.Rows
end L2
namespace L2
open PySem PySem.W PySem.Spec PyProof.Rows
end L2
namespace HT
open PySem PyProof.Rows PySem.W
open PySem.AutoSeq1 (wpAny_loadPart')
end HT
namespace L2
open PySem PySem.Spec PyProof.Rows PySem.W HT
end L2
namespace L2
open PySem PySem.Spec PyProof.Rows PySem.W HT
theorem yp {h g:Heap}{it t:Addr}{i:Nat} (x:h.IsListIter it t i) (k:∀o,h.get? it=some o->g.get? it=some o):g.IsListIter it t i:=let ⟨o,e,r⟩:=x;⟨o,k o e,r⟩
end L2
namespace L2
open PySem PySem.Spec PyProof.Rows PySem.W
def fj (h:Heap) (a:Addr) (v:Value):Prop:= ∃o vs,h.get? a=some o/\o.data = .fields vs/\vs[2]? = some v
theorem fj.keep {h h':Heap}{a:Addr}{v:Value} (l:fj h a v) (k:∀o,h.get? a=some o->h'.get? a=some o):fj h' a v:=let ⟨o,vs,e,r⟩:=l;⟨o,vs,k o e,r⟩
theorem fj.lt {h:Heap}{a:Addr}{v:Value} (l:fj h a v):a < h.objs.size:=let ⟨_,_,e,_⟩:=l;aU e
def gW (h:Heap) (x:Option Value):Prop:=x=none \/ ∃a,x=some (.ref a)/\(fj h a .none \/ ∃c,fj h a (.ref c)/\c≠a/\fj h c .none)
theorem gW.keep {h h':Heap}{x:Option Value} (t:gW h x) (k:∀b v,fj h b v->fj h' b v):gW h' x:=by
 rcases t with rfl | ⟨a,rfl,l | ⟨c,l,n,m⟩⟩
 ·exact .inl rfl
 ·exact .inr ⟨a,rfl,.inl (k _ _ l)⟩
 ·exact .inr ⟨a,rfl,.inr ⟨c,k _ _ l,n,k _ _ m⟩⟩
section
variable {P : Program} {w : World} {A : Around} {E : Value -> Shared -> Prop} {s : Shared} {α : Type}
theorem Vd {e:Addr}{o:Obj}{vs:Array Value}{Q:α->Shared->Prop} (t:gW s.heap A.handled) (eo:s.heap.get? e=some o) (ed:o.data = .fields vs) (e2:2 < vs.size) (new:∀a,A.handled=some (.ref a)->a≠e /\ ¬ fj s.heap a (.ref e))
  (q:∀h',(∀b,b≠e->h'.get? b=s.heap.get? b)->(∃o',h'.get? e=some o'/\o'.cls=o.cls)->E (.ref e) { s with heap:=h' }):wpAny (model P w) A (raiseNew (.ref e):Sem α) Q E s:=by
 unfold raiseNew
 refine af (wpAny_handled ?_)
 have fin:∀a,wpAny (model P w) A (do updateField e 2 (.ref a);(throw (Value.ref e):Sem α)) Q E s:=fun a=>by
  refine af (show wpAny _ _ (setField (.ref e) 2 (.ref a)) _ _ _ from uX eo ed e2 (yd (q _ (fun b hb=>jg _ _ (aO hb)) ⟨_,pJ _ eo (Obj.isFreed_of_fields (TQ ed _)),Obj.cls_mapFields ..⟩)))
 rcases t with t | ⟨a,t,l⟩
 ·rw[t]
  exact af (aB (yd (q s.heap (fun b _=>rfl) ⟨o,eo,rfl⟩)))
 ·obtain⟨nae,nlk⟩:=new a t
  rw[t]
  show wpAny _ _ (if (Value.ref a != Value.ref e)=true then _ else _) _ _ _
  rw[aA (show(Value.ref a != Value.ref e)=true by simp;exact nae)]
  refine af (dX (AS (jh A5 ?_)))
  unfold Builtin.«proto.unchain»
  rcases l with⟨oa,va,ha,da,xa⟩|⟨c,⟨oa,va,ha,da,xa⟩,nca,oc,vc,hc,dc,xc⟩
  ·refine af (iA ha da xa ?_)
   rw[aA (show(Value.none==Value.none)=true by decide)]
   refine af (aB (aB ?_))
   exact fin a
  ·refine af (iA ha da xa ?_)
   have nce:c≠e:=fun z=>nlk ⟨oa,va,ha,da,by rw[xa,z]⟩
   rw[aq (show ¬ (Value.ref c==Value.none)=true from cU)]
   rw[aq (show ¬ (Value.ref c==Value.ref e)=true by simp;exact nce),aq (show ¬ (Value.ref c==Value.ref a)=true by simp;exact nca)]
   refine af (aB (aB ⟨JM _ (by decide +kernel),jh A5 ?_⟩))
   unfold Builtin.«proto.unchain»
   refine af (iA hc dc xc ?_)
   rw[aA (show(Value.none==Value.none)=true by decide)]
   refine af (aB (aB ?_))
   exact fin a
theorem Ls {Q:α->Shared->Prop} (t:gW s.heap A.handled) (q:∀h' e,(∀b o,s.heap.get? b=some o->h'.get? b=some o)->(∃o,h'.get? e=some o/\o.cls = .type "StopIteration")->E (.ref e) { s with heap:=h' }) :
  wpAny (model P w) A (newExc (.type "StopIteration") [] >>= fun e=>(raiseNew e:Sem α)) Q E s:=by
 refine af ?_
 simp only[newExc,newTuple]
 refine af (AB ?_ (by size_fits))
 refine af (m:=firstArgMember _ _) (wpAny_of_eq (a:=Value.none) (by first | rfl | (simp only[firstArgMember];rfl)) ?_)
 refine AB ?_ (by size_fits)
 generalize eh:s.heap.push _=h1
 have k1:∀b o,s.heap.get? b=some o->h1.get? b=some o:=fun b o z=>by rw[<-eh];exact bj _ z
 generalize eo:(Obj.mk _ _ _ _:Obj)=ob
 have k2:∀b o,s.heap.get? b=some o->(h1.push ob).get? b=some o:=fun b o z=>bj _ (k1 b o z)
 have gk:(h1.push ob).get? h1.objs.size=some ob:=dj _ (by rw[<-eo];rfl)
 have ne:∀b o,s.heap.get? b=some o->b≠h1.objs.size:=fun b o z=>bh (aU (k1 b o z))
 refine Vd (o:=ob) (vs:=_) (t.keep fun b v l=>l.keep fun o z=>k2 b o z) gk (by rw[<-eo]) (by simp[ownMembersOf]) (fun a ha=>?_) fun h' ot ⟨o',e',c'⟩=>?_
 ·have la:∃v,fj s.heap a v:=by
   rcases t with t | ⟨a',t,l⟩
   ·rw[t]at ha;cases ha
   ·rw[t]at ha;cases ha
    rcases l with l | ⟨c,l,_⟩
    ·exact⟨_,l⟩
    ·exact⟨_,l⟩
  obtain⟨v,o,vs,e,d,x⟩:=la
  refine⟨ne a o e,fun⟨o2,vs2,e2,d2,x2⟩=>?_⟩
  rw[k2 a o e]at e2;cases e2
  rw[d]at d2;cases d2
  rw[x]at x2
  rcases t with t | ⟨a',t,l⟩
  ·rw[t]at ha;cases ha
  ·rw[t]at ha;cases ha
   rcases l with⟨o3,v3,e3,d3,x3⟩|⟨c,⟨o3,v3,e3,d3,x3⟩,_,lc⟩
   ·rw[e]at e3;cases e3
    rw[d]at d3;cases d3
    rw[x]at x3;cases x3;cases x2
   ·rw[e]at e3;cases e3
    rw[d]at d3;cases d3
    rw[x]at x3;cases x3;cases x2
    exact absurd rfl (bh (fZ lc.lt (by rw[<-eh,x6];exact nN _)))
 ·refine q h' _ (fun b o z=>(ot b (ne b o z)).trans (k2 b o z)) ⟨o',e',c'.trans (by rw[<-eo])⟩
end
end L2
namespace L2
open PySem PySem.Spec PyProof.Rows PySem.W
section
variable {P : Program} {w : World} {A : Around} {E : Value -> Shared -> Prop} {s : Shared} {α : Type}
theorem WD {h:Heap}{b it:Addr}{v:Value}{f:Obj->Obj} (l:fj h b v) (n:b≠it):fj (h.update it f) b v:=l.keep fun o e=>(jg _ _ (aO n)).trans e
theorem gW.upd {h:Heap}{x:Option Value}{it:Addr}{f:Obj->Obj} (t:gW h x) (n:∀b v,fj h b v->b≠it):gW (h.update it f) x:=t.keep fun b v l=>WD l (n b v l)
theorem two_fields {h:Heap}{it:Addr}{o:Obj}{x y:Value} (ho:h.get? it=some o) (hd:o.data = .fields #[x,y]):∀b v,fj h b v->b≠it:=fun b v ⟨o2,vs,e,d,x2⟩ z=>by
 rw[z,ho]at e;cases e
 rw[hd]at d;cases d
 cases x2
theorem L5 (a:Addr) : ¬ ((Value.ref a==Value.none)=true):=cU
theorem VR {it l:Addr}{i:Nat}{items:Array Value}{Q:Value->Shared->Prop} (t:gW s.heap A.handled) (hit:s.heap.IsListIter it l i) (hl:s.heap.IsList l items) (hx:items[i]? = none)
  (q:∀h' e,Heap.ExtBut it s.heap h'->(∃o,h'.get? e=some o/\o.cls = .type "StopIteration")->E (.ref e) { s with heap:=h' }):wpAny (model P w) A (Builtin.SmallTypes.nextOf (.ref it)) Q E s:=by
 have ty:=hit.typeIs
 obtain⟨o,ho,_,hd⟩:=hit
 obtain⟨_,g1,_,_,g2⟩:=hl
 have nl:=two_fields ho hd
 unfold Builtin.SmallTypes.nextOf
 refine af (T6 (name:=Str.ofString "__next__") ty slot_listiter_next (yg slot_listiter_next ty entry_listiter_next (show wpAny _ _ (field (.ref it) 0 >>= _) _ _ s from ?_) (args_listiter_next _)))
 refine af (iA ho hd (x:= .ref l) rfl (show wpAny _ _ (if (Value.ref l==Value.none)=true then _ else _) _ _ s from ?_))
 rw[aq (L5 l)]
 refine af (m:=field (.ref it) 1) (iA ho hd (x:= .int i 0) rfl (af (m:=seqItems? (.ref l)) (JZ g1 g2 ?_)))
 simp only[JJ,hx]
 refine af (nK (af (uX ho hd (by simp) ?_)))
 refine Ls (A:=A.in1) (t.upd nl) fun h' e k st=>?_
 exact q h' e (fun b ob n z=>k b ob ((jg _ _ (aO n)).trans z)) st
theorem WE {it t:Addr}{i:Nat}{items:Array Value}{Q:Option Value->Shared->Prop} (tl:gW s.heap A.handled) (hit:IsTupIter s.heap it t i) (ht:IsTup s.heap t items) (hx:items[i]? = none)
  (q:∀h',Heap.ExtBut it s.heap h'->Q none { s with heap:=h' }):wpAny (model P w) A (pyNext (.ref it)) Q E s:=by
 have ty:=hit.typeIs
 obtain⟨o,ho,_,hd⟩:=hit
 obtain⟨_,g1,_,_,g2⟩:=ht
 have nl:=two_fields ho hd
 unfold pyNext
 refine af (JO (T6 (name:=Str.ofString "__next__") ty slot_tupleiter_next (yg slot_tupleiter_next ty entry_tupleiter_next (show wpAny _ _ (field (.ref it) 0 >>= _) _ _ s from ?_) (args_tupleiter_next _))))
 refine af (iA ho hd (x:= .ref t) rfl (show wpAny _ _ (if (Value.ref t==Value.none)=true then _ else _) _ _ s from ?_))
 rw[aq (L5 t)]
 refine af (m:=field (.ref it) 1) (iA ho hd (x:= .int i 0) rfl (af (m:=seqItems? (.ref t)) (JZ g1 g2 ?_)))
 simp only[JJ,hx]
 refine af (nK (af (uX ho hd (by simp) ?_)))
 refine Ls (A:=A.in1) (tl.upd nl) fun h' e k st=>?_
 exact af (wpAny_isInstance (T:= "StopIteration") (b:=true) st isSubtype_stop (aB (q h' fun b ob n z=>k b ob ((jg _ _ (aO n)).trans z))))
theorem XD {env:Env}{elts:List Expr}{k:Nat}{pos:Pos}{t:Addr}{items:Array Value}{Q:Unit->Shared->Prop} (tl:gW s.heap A.handled) (ht:IsTup s.heap t items)
  (hn:(assignEach elts env).length=items.size) (hs:(assignEach elts env).findIdx? (·.1)=none)
  (q:∀h',Heap.ExtBut s.heap.objs.size s.heap h'->wpAny (model P w) A (assignInOrder ((assignEach elts env).map (·.2)) items.toList) Q E { s with heap:=h' }) :
  wpAny (model P w) A (assign (.Tuple elts k pos) env (.ref t)) Q E s:=by
 have nt:t≠s.heap.objs.size:=let ⟨_,g,_⟩:=ht;bh (aU g)
 rw[assign_Tuple]
 refine af (nJ ?_)
 unfold unpack
 rw[hn,hs]
 refine af (dX ?_)
 unfold unpackItems notIterableAtAll
 refine af (af (wpAny_specialOf ht.typeIs slot_tuple_iter.lookup (aB ?_)))
 simp only[AG,uU]
 refine af (dX (iter_tuple ht (af (dX (draw_tuple nt items.size 0 _ _ ⟨_,dj _ rfl,rfl,rfl⟩ (ht.push _) (Nat.le_of_eq (Nat.zero_add _)) fun h1 i1 s1=>?_)))))
 rw[aq (by simp)]
 have al:(items.toList.drop 0).take items.size=items.toList:=T7 (by simp)
 have lk:∀b v,fj s.heap b v->fj h1 b v:=fun b v l=>l.keep fun o e=>(s1.2 b (bh (aU e))).trans (bj _ e)
 refine af (dX (WE (s:={ s with heap:=h1 }) (tl.keep lk) i1 ((ht.push _).extBut s1.extBut nt) (by simp) fun h2 x2=>?_))
 simp only[Option.isSome_none,AG,uU]
 rw[al]
 exact aB (q h2 fun b o hb e=>x2 b o hb (s1.extBut b o hb (bj _ e)))
end
end L2
namespace L2
open PySem PySem.Spec PyProof.Rows PySem.W
theorem gW.Zl {h h':Heap}{x:Option Value} (t:gW h x) (k:∀b v,v ≠ .bool false->fj h b v->fj h' b v):gW h' x:=by
 rcases t with rfl | ⟨a,rfl,l | ⟨c,l,n,m⟩⟩
 ·exact .inl rfl
 ·exact .inr ⟨a,rfl,.inl (k _ _ (fun z=>by cases z) l)⟩
 ·exact .inr ⟨a,rfl,.inr ⟨c,k _ _ (fun z=>by cases z) l,n,k _ _ (fun z=>by cases z) m⟩⟩
section
variable {P : Program} {w : World} {A : Around} {E : Value -> Shared -> Prop} {s : Shared}
theorem WG {z TI TO i1 i2 l1 l2:Addr}{k:Nat}{xs:Array Value}{Q:Option Value->Shared->Prop} (t:gW s.heap A.handled) (D:ZipApart z TI TO i1 i2 l1 l2) (hz:IsZip s.heap z TI TO .none) (hI:IsPair s.heap TI (.ref i1) (.ref i2))
  (h1:s.heap.IsListIter i1 l1 k) (hl:s.heap.IsList l1 xs) (hx:xs[k]? = none) (q:∀h',(∀c o,c≠z->c≠i1->s.heap.get? c=some o->h'.get? c=some o)->Q none { s with heap:=h' }) :
  wpAny (model P w) A (pyNext (.ref z)) Q E s:=by
 have ty:s.TypeIs (.ref z) "zip" :=⟨_,hz,rfl⟩
 have end_:∀h' e,(∀c o,c≠z->c≠i1->s.heap.get? c=some o->h'.get? c=some o)->(∃o,h'.get? e=some o/\o.cls = .type "StopIteration")->wpAny (model P w) A (isInstance (.ref e) (.type "StopIteration") >>= fun b=>if b=true then pure none else throw (.ref e)) Q E { s with heap:=h' }:=fun h' e kp st =>
  af (wpAny_isInstance (T:= "StopIteration") (b:=true) st isSubtype_stop (aB (q h' kp)))
 unfold pyNext
 refine af (JO (T6 (name:=Str.ofString "__next__") ty F.slot_zip_next (yg F.slot_zip_next ty F.entry_zip_next ?_ (F.args_zip_next_1 _))))
 refine af (m:=field (.ref z) 2) (iA hz rfl (x:= .bool false) rfl ?_)
 refine af (m:=field (.ref z) 3) (iA hz rfl (x:= .ref TI) rfl (af (JZ hI rfl ?_)))
 refine af (m:=Builtin.SmallTypes.ownedTupleIsFree (.ref z)) ?_
 unfold Builtin.SmallTypes.ownedTupleIsFree
 refine af (iA hz rfl (x:= .none) rfl (aB ?_))
 simp only[pK]
 refine af (nK (af (iA hz rfl (x:= .ref TO) rfl (af (wpAny_setField_rec hz (by simp) fun g1 gz s1=>?_)))))
 replace gz:IsZip g1 z TI TO .ellipsis:=gz
 refine af ?_
 simp only[List.zipIdx_cons,List.zipIdx_nil,List.forIn_cons,List.forIn_nil]
 refine af (af (wpAny_onRaise ?_))
 have t1:gW g1 A.handled:=t.Zl fun b v nv l=>l.keep fun o e=>(s1.2 b fun zz=>nv (by
  obtain⟨o2,vs,e2,d2,x2⟩:=l
  rw[zz,hz]at e2;cases e2;cases d2;cases x2;rfl)).trans e
 refine af (m:=Builtin.SmallTypes.nextOf (.ref i1)) (VR (A:=A.in1) (s:={ s with heap:=g1 }) t1 (h1.extBut s1.extBut D.i1z) (hl.extBut s1.extBut D.l1z) hx fun g2 e x2 ⟨oe,he,ce⟩=>?_)
 have Qm:IsZip g2 z TI TO .ellipsis:=x2 _ _ D.i1z.symm gz
 have nez:e≠z:=fun zz=>by rw[zz,Qm]at he;cases he;simp at ce
 refine wpAny_setField_rec Qm (by simp) fun g3 _ s3=>?_
 exact end_ g3 e (fun c o c1 c2 x=>s3.extBut _ _ c1 (x2 _ _ c2 (s1.extBut _ _ c1 x))) ⟨oe,s3.extBut _ _ nez he,ce⟩
end
end L2
namespace L2
open PySem PySem.Spec PyProof.Rows PySem.W
end L2
namespace L2
open PySem PySem.Spec PyProof.Rows PySem.W HT
def mV (H:Hp) (x:Option Value):Prop:= ∃a C dx,x=some (.ref a)/\(H a=some (dJ (some .none) C dx a) \/ ∃c C' jF,H a=some (dJ (some (.ref c)) C dx a)/\c≠a/\H c=some (dJ (some .none) C' jF c))
theorem mV.same {H H':Hp}{x:Option Value} (t:mV H x) (s:∀b o,H b=some o->H' b=some o):mV H' x:=by
 obtain⟨a,C,dx,e,h | ⟨c,C',jF,h1,n,h2⟩⟩:=t
 ·exact⟨a,C,dx,e,.inl (s _ _ h)⟩
 ·exact⟨a,C,dx,e,.inr ⟨c,C',jF,s _ _ h1,n,s _ _ h2⟩⟩
theorem mV.Og {X:Cx}{pins:List (Addr×Obj)}{σ:St}{H:Hp}{s:Shared}{x:Option Value} (I:Inv X pins σ H s) (t:mV H x):gW s.heap x:=by
 have lk:∀ {a C:Addr}{dx:Option Addr}{v:Value},H a=some (dJ (some v) C dx a)->fj s.heap a v:=fun {a C dx v} e=>by
  obtain⟨o,vs,h1,_,_,h2,h3⟩:=(I.ar a _ e).1
  exact⟨o,vs,h1,h2,h3 v rfl⟩
 obtain⟨a,C,dx,e,h | ⟨c,C',jF,h1,n,h2⟩⟩:=t
 ·exact .inr ⟨a,e,.inl (lk h)⟩
 ·exact .inr ⟨a,e,.inr ⟨c,lk h1,n,lk h2⟩⟩
structure CK (P:Program) (w:World) (K:Frag) (hv:Option Value) (tg:Expr) (J:It) (fp:List Addr) (it:Addr) (tn:Nat->Heap->Prop):Prop where
 mem:it∈fp
 obj:∀i h,tn i h -> ∀b∈fp,∃o,h.get? b=some o /\ ∀v,o.data ≠ .cell v
 keep:∀i h h',tn i h->(∀b∈fp,∀o,h.get? b=some o->h'.get? b=some o)->tn i h'
 item:∀ (X:Cx),X.prog=P->X.w=w->X.K=K->X.A.handled=hv -> ∀ (i:Nat) (pins:List (Addr×Obj)) (s:Shared) (σ:St) (H:Hp) (E:Value->Shared->Prop),Inv X pins σ H s->(∀b∈fp,fh X pins H b)->tn i s.heap->J.go i H ->
  wpAny (model P w) X.A (pyNext (.ref it)) (fun r s1=>∃u,r=some u /\
   wpAny (model P w) X.A (letOwnedTupleGo tg (.ref it) u) (fun _ s2=>∃x H',Inv X pins σ H' s2/\RelV x u/\J.ng i H x H'/\tn (i+1) s2.heap /\ ∀b∈fp,H' b=none) E s1) E s
 done:∀ (X:Cx),X.prog=P->X.w=w->X.K=K->X.A.handled=hv -> ∀ (i:Nat) (pins:List (Addr×Obj)) (s:Shared) (σ:St) (H:Hp) (E:Value->Shared->Prop),Inv X pins σ H s->(∀b∈fp,fh X pins H b)->tn i s.heap->J.stop i H ->
  wpAny (model P w) X.A (pyNext (.ref it)) (fun r s1=>r=none/\Inv X pins σ H s1) E s
 self:∀ (A:Around) (i:Nat) (s:Shared) (Q:Value->Shared->Prop) (E:Value->Shared->Prop),tn i s.heap->Q (.ref it) s->wpAny (model P w) A (pyIter (.ref it)) Q E s
def aaK (X:Cx) (pins:List (Addr×Obj)) (σ:St) (tg:Expr) (R:It->Hp->Prop) (qG:Value) (s2:Shared):Prop:=
 ∃ (it:Addr) (fp:List Addr) (tn:Nat->Heap->Prop) (J:It) (H':Hp),qG = .ref it/\Inv X pins σ H' s2/\CK X.prog X.w X.K X.A.handled tg J fp it tn/\tn 0 s2.heap/\(∀b∈fp,fh X pins H' b)/\R J H'
def Qn (X:Cx) (tg iter:Expr) (wi:TI):Prop:=
 ∀ (pins:List (Addr×Obj)) (s:Shared) (σ:St) (H:Hp) (R:It->Hp->Prop),Inv X pins σ H s->wi σ H R ->
  wpAny (model X.prog X.w) X.A (eval iter X.env) (fun v s1=>wpAny (model X.prog X.w) X.A (pyIter v) (aaK X pins σ tg R) X.xe s1) X.xe s
def Zm (K:Frag) (hv:Option Value) (n:Nat) (t:lQ):TG:=fun v σ H Q=>∃a xs,v = .ref a/\aJ K H a xs/\xs.length=n/\mV H hv/\t xs σ H Q
theorem XF {X:Cx}{pos:Pos}{es:List Expr}{k:Nat}{t:lQ}{n:Nat}{K:Frag}{hv:Option Value} (hK:X.K=K) (hc:X.A.handled=hv) (h:ud X es t)
  (hn:(assignEach es X.env).length=n:=by rfl) (wM:(assignEach es X.env).findIdx? (·.1)=none:=by rfl):PG X (.Tuple es k pos) (Zm K hv n t):=by
 intro pins s σ H v u Q I r hw
 subst hK
 obtain⟨a,xs,rfl,hq,hl,tl,hw⟩:=hw
 cases r
 obtain⟨its,rv,ht,hz⟩:=I.tuple hq
 refine XD (by rw[hc];exact tl.Og I) ht (by simp[hn,<-hl,rv.length]) wM fun h' hx=>?_
 have I1:Inv X pins σ H { s with heap:=h' }:=I.kept (t':=s.toks) fun b o e=>hx b o (bh (aU e)) e
 exact h pins _ σ H xs _ Q I1 (by simpa using rv) hw
def Dj (K:Frag) (hv:Option Value) (l1 l2:Addr):It:=
  ⟨fun i H=>∃xs ys x y,aj K H l1 xs/\aj K H l2 ys/\xs[i]? = some x/\ys[i]? = some y,
   fun i H v H'=>∃t x y,H t=none/\v = .ref t/\(∀xs,aj K H l1 xs->xs[i]? = some x)/\(∀ys,aj K H l2 ys->ys[i]? = some y)/\H'=upd H t (.tup [x,y]),
   fun i H=>∃xs,aj K H l1 xs/\xs.length<=i/\mV H hv⟩
theorem VS {P:Program}{w:World}{K:Frag}{hv:Option Value}{elts:List Expr}{n1:Nat}{tp:Pos}{z TI TO i1 i2 l1 l2:Addr} (D:ZipApart z TI TO i1 i2 l1 l2) :
  CK P w K hv (.Tuple elts n1 tp) (Dj K hv l1 l2) [z,TI,TO,i1,i2] z (fun i h=>IsZip h z TI TO .none/\IsPair h TI (.ref i1) (.ref i2)/\(∃a b,IsPair h TO a b)/\h.IsListIter i1 l1 i/\h.IsListIter i2 l2 i) where
 mem:=by simp
 obj:=fun i h st b hb=>by
  obtain⟨hz,nC,⟨a,b',qZ⟩,⟨o1,e1,c1,d1⟩,⟨o2,e2,c2,d2⟩⟩:=st
  simp only[bq,rJ,rK]at hb
  rcases hb with rfl | rfl | rfl | rfl | rfl
  ·exact⟨_,hz,fun v q=>by cases q⟩
  ·exact⟨_,nC,fun v q=>by cases q⟩
  ·exact⟨_,qZ,fun v q=>by cases q⟩
  ·exact⟨o1,e1,fun v q=>by rw[d1]at q;cases q⟩
  ·exact⟨o2,e2,fun v q=>by rw[d2]at q;cases q⟩
 keep:=fun i h h' st k=>by
  obtain⟨hz,nC,⟨a,b,qZ⟩,t1,t2⟩:=st
  exact⟨k z (by simp) _ hz,k TI (by simp) _ nC,⟨a,b,k TO (by simp) _ qZ⟩,yp t1 fun o e=>k i1 (by simp) o e,yp t2 fun o e=>k i2 (by simp) o e⟩
 item:=by
  intro X hP hw hK hc i pins s σ H E I hf st hg
  subst hP hw hK
  obtain⟨xs,ys,x,y,uz,oV,hx,hy⟩:=hg
  obtain⟨Oh,z6,p1,_⟩:=I.list uz
  obtain⟨tE,Qo,p2,_⟩:=I.list oV
  obtain⟨u1,eu,G4⟩:=z6.get hx
  obtain⟨u2,hu2,G5⟩:=Qo.get hy
  obtain⟨hz,nC,⟨a,b,qZ⟩,t1,t2⟩:=st
  refine wpAny_pyNext_zip_item D hz nC qZ t1 t2 p1.isList p2.isList (by simpa using eu) (by simpa using hu2) fun g gz gTO gt1 gt2 gp _ kp=>⟨_,rfl,?_⟩
  refine wpAny_letOwnedTupleGo_zip (s:={ s with heap:=g }) gz fun ir z2 sb=>?_
  have lt:∀ {c:Addr}{o:Obj},s.heap.get? c=some o->c≠s.heap.objs.size:=fun e=>bh (aU e)
  have k2:∀c o,c≠z->c≠TO->c≠i1->c≠i2->s.heap.get? c=some o->ir.get? c=some o:=fun c o n0 n1 n2 n3 e=>(sb.2 c n0).trans (kp c o n0 n1 n2 n3 e)
  have hn:H s.heap.objs.size=none:=I.ar.fresh (aN _)
  have tz:s.heap.objs.size≠z:=aO (lt hz)
  have t3:ir.get? s.heap.objs.size=some { cls:= .type "tuple", data:= .seq #[u1,u2] }:=(sb.2 _ tz).trans gp
  have fz:=hf z (by simp)
  have fO:=hf TO (by simp)
  have f1:=hf i1 (by simp)
  have f2:=hf i2 (by simp)
  have iL:∀ {c:Addr}{o:HO},H c=some o->c≠z/\c≠TO/\c≠i1/\c≠i2:=fun q=>⟨fun n=>(by rw[n,fz.1]at q;cases q),fun n=>(by rw[n,fO.1]at q;cases q),fun n=>(by rw[n,f1.1]at q;cases q),fun n=>(by rw[n,f2.1]at q;cases q)⟩
  have gf:∀ {c:Addr},c ∉ [z,TO,i1,i2]->c≠z/\c≠TO/\c≠i1/\c≠i2:=fun hc=>by simpa using hc
  have J:Inv X pins σ (upd H s.heap.objs.size (.tup [x,y])) { s with heap:=ir }:=by
   refine I.step (g':=s.gens) (d':=s.drawn) (t':=s.toks) (ch:= [z,TO,i1,i2]) (fun c hc=>?_) (fun c o _ _ hc q _=>let ⟨n0,n1,n2,n3⟩:=gf hc;k2 c o n0 n1 n2 n3 q) (fun c o _ _ hc q _=>let ⟨n0,n1,n2,n3⟩:=gf hc;⟨o.slots,k2 c o n0 n1 n2 n3 q⟩)
    (fun c o _ q n=>by rw[ah (lt q)];exact n) (fun c o hc q=>let ⟨n0,n1,n2,n3⟩:=gf hc;⟨o,k2 c o n0 n1 n2 n3 q⟩) (fun c vs q=>by rw[ah (ao q hn)];exact q) (fun c o v q=>by rw[ah (ao q hn)];exact q)
    (fun c ps q=>⟨#[],by rw[ah (ao q hn),q];simp⟩) (fun m hm=>?_) (fun c o q=>?_) I.bare
   ·have ok:∀ {d:Addr},fh X pins H d->(d∈X.ex\/X.cp.heap.objs.size<=d)/\d≠X.env.locals/\(∀x c,X.env.cells.lookup x=some c->c≠d) /\ ∀p∈X.pn++pins,p.1≠d:=fun f=>⟨f.2.2.2.1,f.2.1,f.2.2.2.2.1,f.2.2.2.2.2⟩
    simp only[bq,rJ,rK]at hc
    rcases hc with rfl | rfl | rfl | rfl
    ·exact ok fz
    ·exact ok fO
    ·exact ok f1
    ·exact ok f2
   ·obtain⟨o,es,ep,ho,r⟩:=hm
    exact⟨o,es,ep,k2 _ o (aO fz.2.1) (aO fO.2.1) (aO f1.2.1) (aO f2.2.1) ho,r⟩
   ·by_cases hb:c=s.heap.objs.size
    ·subst hb
     rw[ag]at q;cases q
     exact⟨by rw[aI];show 2<=_;decide,[u1,u2],.cons G4 (.cons G5 .nil),_,t3,rfl,_,rfl,rfl⟩
    ·rw[ah hb]at q
     refine(I.ar c o q).f' (fun d v hd e=>?_) (fun d e=>by rw[ah (ao e hn)];exact e) fun d vs e=>by rw[ah (ao e hn)];exact e
     rcases hd with hd | hd
     ·subst hd
      obtain⟨n0,n1,n2,n3⟩:=iL q
      exact k2 _ v n0 n1 n2 n3 e
     ·obtain⟨n0,n1,n2,n3⟩:=iL hd
      exact k2 d v n0 n1 n2 n3 e
  refine⟨.ref s.heap.objs.size,_,J,rfl,⟨s.heap.objs.size,x,y,hn,rfl,fun vs h=>by rw[I.vg h uz];exact hx,fun vs h=>by rw[I.vg h oV];exact hy,rfl⟩,⟨z2,k2 _ _ D.TIz D.TITO D.TIi1 D.TIi2 nC,⟨u1,u2,sb.extBut _ _ D.TOz gTO⟩,yp gt1 fun o e=>sb.extBut _ o D.i1z e,yp gt2 fun o e=>sb.extBut _ o D.i2z e⟩,fun c hc=>?_⟩
  have:c≠s.heap.objs.size:=by
   simp only[bq,rJ,rK]at hc
   rcases hc with rfl | rfl | rfl | rfl | rfl
   ·exact lt hz
   ·exact lt nC
   ·exact lt qZ
   ·obtain⟨o,e,_⟩:=t1;exact lt e
   ·obtain⟨o,e,_⟩:=t2;exact lt e
  rw[ah this];exact(hf c hc).1
 done:=by
  intro X hP hw hK hc i pins s σ H E I hf st hg
  subst hP hw hK
  obtain⟨xs,uz,alP,tl⟩:=hg
  obtain⟨Oh,z6,p1,_⟩:=I.list uz
  have e1:=z6.length
  obtain⟨hz,nC,⟨a,b,qZ⟩,t1,t2⟩:=st
  have fz:=hf z (by simp)
  have f1:=hf i1 (by simp)
  refine WG (by rw[hc];exact tl.Og I) D hz nC t1 p1.isList (by simp;omega) fun g kp=>⟨rfl,?_⟩
  have iL:∀ {c:Addr}{o:HO},H c=some o->c≠z/\c≠i1:=fun q=>⟨fun n=>(by rw[n,fz.1]at q;cases q),fun n=>(by rw[n,f1.1]at q;cases q)⟩
  have gf:∀ {c:Addr},c ∉ [z,i1]->c≠z/\c≠i1:=fun hc=>by simpa using hc
  refine I.step (g':=s.gens) (d':=s.drawn) (t':=s.toks) (ch:= [z,i1]) (fun c hc=>?_) (fun c o _ _ hc q _=>let ⟨n0,n1⟩:=gf hc;kp c o n0 n1 q) (fun c o _ _ hc q _=>let ⟨n0,n1⟩:=gf hc;⟨o.slots,kp c o n0 n1 q⟩)
   (fun c o _ q n=>n) (fun c o hc q=>let ⟨n0,n1⟩:=gf hc;⟨o,kp c o n0 n1 q⟩) (fun c vs q=>q) (fun c o v q=>q) (fun c ps q=>⟨#[],by rw[q];simp⟩) (fun m hm=>?_) (fun c o q=>?_) I.bare
  ·have ok:∀ {d:Addr},fh X pins H d->(d∈X.ex\/X.cp.heap.objs.size<=d)/\d≠X.env.locals/\(∀x c,X.env.cells.lookup x=some c->c≠d) /\ ∀p∈X.pn++pins,p.1≠d:=fun f=>⟨f.2.2.2.1,f.2.1,f.2.2.2.2.1,f.2.2.2.2.2⟩
   simp only[bq,rJ,rK]at hc
   rcases hc with rfl | rfl
   ·exact ok fz
   ·exact ok f1
  ·obtain⟨o,es,ep,ho,r⟩:=hm
   exact⟨o,es,ep,kp _ o (aO fz.2.1) (aO f1.2.1) ho,r⟩
  ·refine(I.ar c o q).f' (fun d v hd e=>?_) (fun d e=>e) fun d vs e=>e
   rcases hd with hd | hd
   ·subst hd
    obtain⟨n0,n1⟩:=iL q
    exact kp _ v n0 n1 e
   ·obtain⟨n0,n1⟩:=iL hd
    exact kp d v n0 n1 e
 self:=fun _ _ _ _ _ st h=>wpAny_pyIter_zip st.1 h
section
variable {X : Cx}
def Zn (K:Frag) (hv:Option Value) (ta:TA):TI:=fun σ H R=>ta σ H fun vs H1=>∃a b,vs = [.ref a,.ref b]/\(∃xs,aj K H1 a xs)/\(∃ys,aj K H1 b ys)/\R (Dj K hv a b) H1
theorem XG {a b:Expr}{ta:TA}{p pos tp:Pos}{elts:List Expr}{n1:Nat} (hg:Gl X "zip") (hm:X.mg "zip" = none) (ha:PA X [a,b] ta) (he:starEach [a,b] X.env=(false,eval a X.env)::starEach [b] X.env:=by rfl) (cB:(backTo pos (starEach [b] X.env)).any (·.1)=false:=by rfl) :
  Qn X (.Tuple elts n1 tp) (.Call (.Name "zip" p) [a,b] [] pos) (Zn X.K X.A.handled ta):=by
 intro pins s σ H R I h
 refine pI (pZ I hg hm (show bootBuiltins "zip" = some (.type "zip") by decide +kernel) ?_)
 refine AE (au (ha pos pins s σ H _ I h) fun us s1 ⟨vs,H1,I1,r1,q1⟩=>?_) he cB
 obtain⟨l1,l2,e,⟨xs,uz⟩,⟨ys,oV⟩,q⟩:=q1
 subst e
 obtain⟨u1,u2,rfl,G4,G5⟩:=r1.two
 cases G4
 cases G5
 obtain⟨Oh,z6,p1,_⟩:=I1.list uz
 obtain⟨tE,Qo,p2,_⟩:=I1.list oV
 have xt:(l1:Nat) < s1.heap.objs.size:=by obtain⟨o,_,e,_⟩:=p1;exact aU e
 have lt2:(l2:Nat) < s1.heap.objs.size:=by obtain⟨o,_,e,_⟩:=p2;exact aU e
 refine call_zip_2 p1.isList p2.isList fun g gz gi go g1 g2 _ kp=>?_
 refine wpAny_pyIter_zip (s:={ s1 with heap:=g }) gz ?_
 refine⟨s1.heap.objs.size+4,[s1.heap.objs.size+4,s1.heap.objs.size+2,s1.heap.objs.size+3,s1.heap.objs.size,s1.heap.objs.size+1],_,_,H1,rfl,I1.kept (t':=s1.toks) kp,VS (zipApart_new xt lt2),⟨gz,gi,⟨_,_,go⟩,g1,g2⟩,fun c hc=>?_,q⟩
 have le:s1.heap.objs.size<=c:=by
  simp only[bq,rJ,rK]at hc
  rcases hc with rfl | rfl | rfl | rfl | rfl
  ·exact yh _ _
  ·exact yh _ _
  ·exact yh _ _
  ·exact aN _
  ·exact yh _ _
 exact I1.kr le (I1.ar.fresh le)
end
section
variable {X : Cx} {pins : List (Addr × Obj)} {σ : St} {H2 : Hp} {s2 : Shared} {N' : List Str} {b5 : List (Option Nat)} {scope : Scope} {tg elt iter : Expr} {ifs : List Expr} {pos : Pos}
theorem Ve {J:It}{fp:List Addr}{it:Addr}{tn:Nat->Heap->Prop}{g:TG}{ti:TT}{te:TE}{Q:VK}{E:Value->Shared->Prop}{RR:Value->Addr->Result->Shared->Prop}  (S:cf X.N X.env.scope N' b5 scope)
  (I2:Inv X pins σ H2 s2) (T:CK X.prog X.w X.K X.A.handled tg J fp it tn) (st:tn 0 s2.heap) (hf:∀b∈fp,fh X pins H2 b)
  (hb:∀s H fp,PG (cG X N' scope s H fp) tg g/\qr (cG X N' scope s H fp) ifs ti/\PE (cG X N' scope s H fp) elt te)
  (hw:∀p,H2 p=none->ju J g ti te (pick b5 σ) Q p H2) (hR:∀acc C s',CompEnd X pins σ Q acc C s'->RR acc C (.ok .next) s') :
  wpAny (model X.prog X.w) X.A (newList []) (fun acc s3=>wpAny (model X.prog X.w) X.A (newFunctionEnv scope X.env.globals (gI X.env.cells scope.names []) [] X.env.qual none .none (some X.env)) (fun vZ s4 =>
   codeAny (model X.prog X.w) X.A (.compStart (.ListComp elt [⟨tg,iter,ifs,0⟩] scope pos) 0 (.ref it) acc { vZ with scope:=relabel scope X.env }) (RR acc vZ.locals) s4) E s3) E s2:=by
 refine AB ?_
 have I3:Inv X pins σ (upd H2 s2.heap.objs.size (.lst [])) { s2 with heap:=s2.heap.push { cls:= .type "list", data:= .seq ([]:List Value).toArray } }:=
  I2.C8 (its:= []) (t':=s2.toks) .nil (a4 _)
 have hp:=hw s2.heap.objs.size I2.fresh
 generalize e3:({ s2 with heap:=s2.heap.push { cls:= .type "list", data:= .seq ([]:List Value).toArray } }:Shared)=s3 at I3 ⊢
 generalize eH:upd H2 s2.heap.objs.size (.lst [])=H3 at I3 hp
 have i8:∀b∈fp,b < s2.heap.objs.size:=fun b hb=>let ⟨_,e,_⟩:=T.obj _ _ st b hb;aU e
 have get3:∀b o,s2.heap.get? b=some o->s3.heap.get? b=some o:=fun b o e=>by rw[<-e3];exact bj _ e
 have oP:tn 0 s3.heap:=T.keep _ _ _ st fun b _ o e=>get3 b o e
 have eJ:∀b∈fp,fh X pins H3 b:=fun b hb=>⟨by rw[<-eH,ah (bh (i8 b hb))];exact(hf b hb).1,(hf b hb).2⟩
 have FY:∀b∈fp,∃o,s3.heap.get? b=some o:=fun b hb=>let ⟨o,e,_⟩:=T.obj _ _ oP b hb;⟨o,e⟩
 refine Kv fun h4 hn hk gM FZ=>?_
 have I4:Inv (cG X N' scope s3 H3 fp) [] (pick b5 σ) H3 { s3 with heap:=h4 }:=LM I3 S eJ FY hn hk gM FZ
 have wZ:tn 0 ({ s3 with heap:=h4 }:Shared).heap:=T.keep _ _ _ oP fun b _ o e=>hk b o e
 obtain⟨hG,hI,hE⟩:=hb s3 H3 fp
 obtain⟨W,⟨m0,w0⟩,turn⟩:=hp
 rw[eH]at w0
 have ku:∀ {H':Hp},(∀b∈fp,H' b=none) -> ∀b∈fp,fh (cG X N' scope s3 H3 fp) [] H' b:=fun hn b hb =>
  ⟨hn b hb,(I4.ok.lO b hb).1,I4.ok.lI b hb,.inl hb,fun x c e=>(I4.ok.lO b hb).2 x c e,fun p hp=>absurd (show p∈([]:List (Addr×Obj)) from hp) (by simp)⟩
 have loop:codeAny (model X.prog X.w) X.A (.compLoop (.ListComp elt [⟨tg,iter,ifs,0⟩] scope pos) 0 (.ref it) (.ref s2.heap.objs.size) (BM scope s3.heap.objs.size X.env))
   (RR (.ref s2.heap.objs.size) s3.heap.objs.size) { s3 with heap:=h4 }:=by
  refine Kg (fun n s'=>∃i ys τ H',Inv (cG X N' scope s3 H3 fp) [] τ H' s'/\tn i s'.heap/\(∀b∈fp,H' b=none)/\W i n ys τ H') ?_ m0 ⟨0,[],_,H3,I4,wZ,fun b hb=>(eJ b hb).1,w0⟩
  rintro n s5 ⟨i,ys,τ,H5,I5,nj,qI,w5⟩
  obtain⟨w4,w5⟩:=turn i n ys τ H5 w5
  rcases w5 with⟨stop,qn⟩|⟨go,step⟩
  ·refine au (T.done (cG X N' scope s3 H3 fp) rfl rfl rfl rfl i [] s5 τ H5 _ I5 (ku qI) nj stop) fun r s6 ⟨hr,I6⟩=>?_
   subst hr
   refine hR _ _ _ ⟨_,H5,rfl,?_,?_,?_,qn⟩
   ·exact I3.vL (s':=s6) (ch:=fp) I6.os I6.base I6.ar I6.bare fun b hb=>⟨(eJ b hb).2.2.2.1,(eJ b hb).2.1,(eJ b hb).2.2.2.2.1,(eJ b hb).2.2.2.2.2⟩
   ·exact I3.kr (aN _) I6.free
   ·obtain⟨m,hm,_⟩:=I6.loc
    exact⟨m,hm⟩
  ·refine au (T.item (cG X N' scope s3 H3 fp) rfl rfl rfl rfl i [] s5 τ H5 _ I5 (ku qI) nj go) fun r s6 ⟨u,hr,h6⟩=>?_
   subst hr
   refine au h6 fun _ s7 ⟨x,H7,I7,r7,y7,qO,F0⟩=>?_
   have F6:=I7.pinned (ku F0) (T.obj _ _ qO)
   refine au (hG _ s7 τ H7 x u _ F6 r7 (step x H7 y7)) fun _ s8 ⟨qP,H8,I8,q8⟩=>?_
   refine au (hI _ s8 qP H8 _ I8 q8) fun b s9 ⟨H9,I9,q9⟩=>?_
   have again:∀ {gA:St}{H':Hp}{s':Shared}{eg:List V}{m':Nat},Inv (cG X N' scope s3 H3 fp) ([]++sJ fp s7.heap) gA H' s'->m' < n->W (i+1) m' eg gA H' ->
     ∃m,m < n /\ ∃i ys τ H',Inv (cG X N' scope s3 H3 fp) [] τ H' s'/\tn i s'.heap/\(∀b∈fp,H' b=none)/\W i m ys τ H':=fun {gA H' s' eg m'} I' hm w'=>by
    refine⟨m',hm,i+1,eg,gA,H',I'.vi,T.keep _ _ _ qO fun b hb o e=>(I'.pin (b,o) (eU _ (eU _ (rR hb e)))).1,fun b hb=>?_,w'⟩
    obtain⟨o,e,d⟩:=T.obj _ _ qO b hb
    exact(I'.pin (b,o) (eU _ (eU _ (rR hb e)))).2.1
   cases b with
   | false =>
    obtain⟨m',hm,w'⟩:=q9
    exact again I9 hm w'
   | true =>
    refine au (hE _ s9 qP H9 _ I9 q9) fun y F7 ⟨z,w6,F8,F9,Dd,De,m',hm,w'⟩=>?_
    refine au (kc _ F7 qP w6 (.ref s2.heap.objs.size) [z] (.ref s2.heap.objs.size) [y] (fun _ H'=>H'=upd w6 s2.heap.objs.size (.lst (ys ++ [z]))) F8 rfl (.cons F9 .nil) ⟨_,_,_,rfl,rfl,Dd,De,rfl⟩) fun _ s11 ⟨_,Ga,Gb,_,qQ⟩=>?_
    subst qQ
    exact again Gb hm w'
 exact codeAny_compStart_list loop (T.self X.A 0 _ _ _ wZ loop)
theorem WH {wi:TI}{g:TG}{ti:TT}{te:TE}  (S:cf X.N X.env.scope N' b5 scope) (hi:Qn X tg iter wi)
  (hb:∀s H fp,PG (cG X N' scope s H fp) tg g/\qr (cG X N' scope s H fp) ifs ti/\PE (cG X N' scope s H fp) elt te)
  (hs:∀x,foldedSetIterable iter X.env x=pure x:=by intro _;rfl):PE X (.ListComp elt [⟨tg,iter,ifs,0⟩] scope pos) (CC wi b5 g ti te):=by
 intro pins s σ H Q I h
 rw[eval_ListComp]
 refine Tx (use:=none) rfl hs (A4 fun n hn=>yu I S hn) S.kind (fun x hx hl=>rO S.keys (by rw[<-hl];exact hx)) ?_
 refine au (hi pins s σ H _ I h) fun v s1 h1=>au h1 fun qG s2 h2=>?_
 obtain⟨it,fp,tn,J,H2,e,I2,T,gX,f2,hw⟩:=h2
 subst e
 refine Ve (RR:=fun acc C=>compPost (model X.prog X.w) X.A X.xe none (EP X pins σ Q) acc C) S I2 T gX f2 hb hw ?_
 rintro acc C s' ⟨p,H',rfl,I',fC,⟨m,hm⟩,q⟩
 refine⟨m,hm,fun h' i'=>⟨.ref p,H',?_,rfl,q⟩⟩
 exact I'.turned (it:=C) (t':=s'.toks) (fun b o hb e=>(i'.2 b hb).trans e) fC.1 fC.2.1 fC.2.2.2.1 fC.2.2.2.2.1 fC.2.2.2.2.2
end
theorem VT {K:Frag}{hv:Option Value}{a b:Addr}{xs ys:List V}{g:TG}{ti:TT}{te:TE}{iq:St}{Q:VK}{p:Addr}{H1:Hp} (n:Nat) (hn:n=xs.length) (hy:n<=ys.length) (Pv:Nat->List V->St->Hp->Prop) (h0:Pv 0 [] iq (upd H1 p (.lst [])))
  (hl:∀i zs τ H,Pv i zs τ H->H p=some (.lst zs)/\aj K H a xs/\aj K H b ys/\mV H hv)
  (hs:∀i x y zs τ H t,xs[i]? = some x->ys[i]? = some y->Pv i zs τ H->H t=none->g (.ref t) τ (upd H t (.tup [x,y])) fun c7 H4=>ti c7 H4 fun c H5=>if c=true then te c7 H5 fun v H6=>H6 p=some (.lst zs)/\zs.length < sizeLine /\ ∃m',m' < n - i/\CW Pv n (i+1) m' (zs ++ [v]) c7 (upd H6 p (.lst (zs ++ [v]))) else ∃m',m' < n - i/\CW Pv n (i+1) m' zs c7 H5)
  (hd:∀zs τ H,Pv n zs τ H->Q (.ref p) H):ju (Dj K hv a b) g ti te iq Q p H1:=by
 refine⟨CW Pv n,⟨n,by simp,a4 _,h0⟩,?_⟩
 rintro i m zs τ H ⟨rfl,hi,pv⟩
 obtain⟨hp,q1,q2,tl⟩:=hl i zs τ H pv
 refine⟨hp,?_⟩
 by_cases lt:i < n
 ·refine .inr ⟨⟨xs,ys,xs[i]'(by omega),ys[i]'(by omega),q1,q2,by simp,by simp⟩,fun v H3 ⟨t,x,y,ht,e,ex,ey,eH⟩=>?_⟩
  subst e eH
  exact hs i x y zs τ H t (ex xs q1) (ey ys q2) pv ht
 ·obtain rfl:i=n:=by omega
  exact .inl ⟨⟨xs,q1,by omega,tl⟩,hd zs τ H pv⟩
end L2
namespace L2
open PySem PySem.Spec PyProof.Rows PySem.W HT
section
variable {X : Cx} {k : Nat} {f : Addr} {fd : FuncData} {ps : List Str} {sp : Option Value -> Sp} {E : XK} {x : Str} {p pos : Pos} {e : Expr} {es : List Expr} {t : TA}
theorem L6 (F:sU X.prog X.w X.K X.mg X.base k f fd ps sp) (hr:gU k X.A) (hg:Gl X x) (hm:X.mg x=some (.ref f)) (hk:keepIn X.K (.ref f)=true) (hb:Binds X.K fd ps []) (hx:Passes aL X E)
  (ha:PA X (e::es) t) (gY:(x==("__debug__" : Str))=false:=by decide) (he:starEach (e::es) X.env=(false,eval e X.env)::starEach es X.env:=by rfl) (cB:(backTo pos (starEach es X.env)).any (·.1)=false:=by rfl) :
  PE X (.Call (.Name x p) (e::es) [] pos) (CA (sp X.A.handled) [] E t):=by
 intro pins s σ H Q I h
 refine pI (ly I hg hm ?_ gY)
 refine AK (h₀:=X.base) I.ok.mod.iM hk (au (ha pos pins s σ H _ I h) fun us s1 ⟨vs,H1,I1,r,q⟩=>⟨I1.a7,?_⟩) he cB
 replace q:sp X.A.handled vs H1 Q E:=by have q0:sp X.A.handled (vs ++ []) H1 Q E:=q;rwa [eV]at q0
 have hl:us.length=ps.length:=by rw[<-r.length];exact F.len _ _ _ _ _ q
 have oU:=hb s1 us I1.a7 (by rw[eV];exact hl)
 rw[eV]at oU
 refine nL (pH (F.run X.A X.stack s1 H1 ⟨us,[]⟩ us vs Q E hr I1.vW oU r q) fun r s' hq=>?_)
 cases r with
 | error e=>exact hx pins σ H1 s1 e s' I1 hq
 | ok fl =>
  cases fl with
  | ret u=>exact I1.after hq
  | next=>exact False.elim hq
  | brk=>exact False.elim hq
  | cont=>exact False.elim hq
def Nw (K:Frag):List V->Hp->VK->Prop:=fun xs H Q=>∃a n C dx c cv b,xs = [.ref a,c]/\((∃B,c = .ref B/\cv = .ref B) \/ ∃T,c = .ty T/\cv = .type T)/\H a=some (dJ n C dx a)/\dh K C/\(∀d,dx=some d -> ∃fs,H d=some (dv d fs))/\kitOne K (.ref C) cv=some b/\Q (.bl b) H
theorem Lu:df X (.builtin "isinstance") (Nw X.K):=by
 intro pins s σ H xs us Q I r h
 obtain⟨a,n,C,dx,c,cv,b,rfl,hc,ea,xc,hd,e,q⟩:=h
 obtain⟨u,w',rfl,ru,gx⟩:=r.two
 cases ru
 have Gh:w'=cv:=by
  rcases hc with⟨B,rfl,rfl⟩|⟨T,rfl,rfl⟩
  ·cases gx;rfl
  ·cases gx;rfl
 subst Gh
 obtain⟨ox,vs,at_,cl,di,da,_⟩:=(I.ar a _ ea).1
 cases dx with
 | none =>
  have J:InstAt s.heap a ox C none:=⟨at_,cl,by unfold notCls;rw[da],by rw[di];exact True.intro⟩
  exact kia_one (yC xc) I.a7 J e (fun z=>nomatch z) fun tk=>⟨.bl b,H,I.tok _,rfl,q⟩
 | some d =>
  obtain⟨fs,ed⟩:=hd d rfl
  obtain⟨_,mA,nn,_⟩:=I.vt ed
  obtain⟨od,k6,_⟩:=rW nn
  have J:InstAt s.heap a ox C (some od):=⟨at_,cl,by unfold notCls;rw[da],by rw[di];exact k6⟩
  exact kia_one (yC xc) I.a7 J e (fun z=>nomatch z) fun tk=>⟨.bl b,H,I.tok _,rfl,q⟩
end
end L2
namespace L2
open PySem PySem.Spec PyProof.Rows PySem.W HS
end L2
namespace HS
open PySem PySem.Spec PyProof.Rows PySem.W L2
section
variable {P : Program} {w : World} {A : Around} {E : Value -> Shared -> Prop} {s : Shared} {T : String} {r d : Addr} {n : Nat} {Pv : Nat -> Value -> Prop} {OK : Heap -> Prop}
theorem US {Q:List Value->Shared->Prop} (K:KdlSrc P w T r d n Pv OK) (hh:A.handled=none) (ar:OK s.heap) (hn:n<=sizeLine)
  (q:∀h' tk (vs:List Value),(∀b o,s.heap.get? b=some o->h'.get? b=some o)->ItemsOf Pv vs.toArray n->Q vs { s with heap:=h',toks:=tk }):wpAny (model P w) A (collect (.ref r)) Q E s:=by
 have lt:=K.there _ ar
 have key:∀R:Result->Shared->Prop,(∀h' tk (acc:Array Value) c,(∀b o,b≠s.heap.objs.size->(s.heap.push (seqObj "list" #[] 0)).get? b=some o->h'.get? b=some o)->h'.get? s.heap.objs.size=some { cls:= .type "list", dict:=none,data:= .seq acc c,slots:= #[] }->ItemsOf Pv acc n->R (.ok (.ret (.ref s.heap.objs.size))) { s with heap:=h',toks:=tk }) ->
   codeAny (model P w) A (.builtin "list.__iadd__" ⟨[.ref s.heap.objs.size,.ref r],[]⟩) R { s with heap:=s.heap.push (seqObj "list" #[] 0) }:=fun R hR=>by
  refine jh alf ?_;rw[mh Ka _]
  show wpAny _ _ (Builtin.List.listExtendWith (.ref s.heap.objs.size) (.ref r) (.ref s.heap.objs.size)) _ _ { s with heap:=s.heap.push (seqObj "list" #[] 0) }
  exact kdl_extend (s:={ s with heap:=s.heap.push (seqObj "list" #[] 0) }) K hh (K.keep _ _ ar fun b _ o e=>bj _ e) s.heap.objs.size (uT lt.1) (uT lt.2) _ 0 (dj _ rfl) (fun h' tk acc c kp e it=>hR h' tk acc c kp e it) hn
 unfold collect
 refine af (AS (jh ald ?_));rw[mh ale _]
 show wpAny _ A.in1 (newList [] >>= fun z=>again (.builtin "list.__iadd__" ⟨[z,.ref r],[]⟩)) _ _ s
 refine af (yf (aB ⟨rF Ka _,key _ fun h' tk acc c kp e it=>?_⟩))
 show wpAny (model P w) A (load s.heap.objs.size >>= _) Q E _
 refine af (wpAny_load e ?_)
 show wpAny _ _ (pure acc.toList) Q E _
 exact aB (q h' tk acc.toList (fun b o hb=>kp b o (bh (aU hb)) (bj _ hb)) (by rw[ak1];exact it))
theorem Vf {ys:List Str}{Q:Value->Shared->Prop} (K:KdlSrc P w T r d n Pv OK) (hh:A.handled=none) (ar:OK s.heap) (qV:n<=63) (hy:∀vs:List Value,ItemsOf Pv vs.toArray n->StrsAre vs ys)
  (hQ:∀D c h' tk (us:List Value) (zs:List Str),(∀b o,s.heap.get? b=some o->h'.get? b=some o)->(∀b o,s.heap.get? b=some o->b≠D)->h'.get? D=some (listOf us.toArray c)->StrsAre us zs->zs.Perm ys->sortedS zs=true->Q (.ref D) { s with heap:=h',toks:=tk }) :
  wpAny (model P w) A (call (.builtin "sorted") [.ref r]) Q E s:=by
 refine TY kind_sorted plain_sorted entry_sorted (args_sorted1 _) ?_
 unfold Builtin.«sorted»
 refine af (m:=checkCount "sorted" 1 1 _) (aB (af (US K hh ar (by rw[aI];omega) fun h1 tk vs k1 it=>?_)))
 have v1:=hy vs it
 have lv:vs.length=n:=by have:=it.1;simpa using this
 refine af (yf ?_ (by rw[aI];omega))
 have gk:(h1.push (seqObj "list" vs.toArray 0)).get? h1.objs.size=some (seqObj "list" vs.toArray 0):=dj _ rfl
 refine af (dX (yg slot_list_sort ⟨_,gk,rfl⟩ entry_list_sort (list_sort_treeK strKind_oneLt gk v1.keysOf (fun alQ alR rest e=>keyKind_strs (by rw[<-e];exact v1)) (by omega) fun fu a1 a2=>⟨_,rfl,?_⟩) (args_list_sort _)))
 obtain⟨iu,b1,b2,b3⟩:=sorted_out_str v1 a1 a2
 obtain⟨c,hc⟩:=sortedHeap_at (n:=0) (vs:=vs) (out:=(arrOf fu).map (·.2)) gk
 refine aB ⟨_,rfl,hQ _ c _ _ _ iu (fun b o e=>?_) (fun b o e=>bh (aU (k1 b o e))) (by rw[hc]) b1 b2 b3⟩
 have e1:=k1 b o e
 have xt:=aU e1
 rw[sortedHeap_old (bh xt) (by rw[size_push'];exact J1 xt),Heap.get?_push_ne _ _ _ (bh xt)]
 exact e1
end
end HS
namespace L2
open PySem PySem.Spec PyProof.Rows PySem.W HS
section
variable {X : Cx}
theorem Kn:∀ {ks:List Str}{us:List Value},ks.length=us.length->(∀ (i:Nat) x u,ks[i]? = some x->us[i]? = some u -> ∃t,u=Value.str x t)->StrsAre us ks
 | [],[],_,_=>.nil
 | [],_::_,h,_=>by simp at h
 | _::_,[],h,_=>by simp at h
 | x::xs,u::us,h,f=>by
  obtain⟨t,rfl⟩:=f 0 x u rfl rfl
  exact .cons _ t (Kn (by simpa using h) fun i y v a b=>f (i+1) y v (by simpa using a) (by simpa using b))
theorem UB (hc:X.calm=true):df X (.builtin "sorted") (fun xs H Q=>∃ (d:Addr) (ks:List (Str×V)),xs = [.ref d]/\H d=some (.dK (ks.map fun p=>(Sum.inr p.1,p.2)))/\ks.length<=63 /\ ∀D iu,H D=none->iu.Perm (ks.map (·.1))->sortedS iu=true->Q (.ref D) (upd H D (.lst (iu.map V.str)))):=by
 intro pins s σ H xs us Q I r h
 obtain⟨d,ks,rfl,hd,qV,q⟩:=h
 obtain⟨u,rfl,rx⟩:=vals1 r
 cases rx
 obtain⟨hz,lo,vs,kv,dd⟩:=CD I.ar hd
 obtain⟨ep,da⟩:=dd.dictAt
 have hlen:(ks.map fun p=>((Sum.inr p.1:Key),p.2)).length=vs.length:=kv.length
 have Nx:ks.length=vs.length:=by rw[<-hlen,aE]
 obtain⟨m,hm,_⟩:=id I.loc
 refine Vf (ys:=ks.map (·.1)) (kdl_dict (kvs:=vs) (ep:=ep) lo) (I.ok.hd hc) da (by omega) (fun us it=>?_) fun D c h' tk out ys k hD new fu p' xl=>?_
 ·refine Kn (by rw[aE,Nx];have:=it.1;simpa using this.symm) fun i x v hx hv=>?_
  obtain⟨key,y,hk,hi⟩:=it.2 i v (by simpa using hv)
  obtain⟨p,hp,rfl⟩:=iS.mp (by rw[<-f6];exact hx)
  have e:(Sum.inr p.1:Key)=key:=by
   have jY:(ks.map fun p=>((Sum.inr p.1:Key),p.2))[i]? = some (Sum.inr p.1,p.2):=by rw[f6,hp];rfl
   clear it hx hv hlen Nx da dd q hz hd hp qV
   generalize (ks.map fun p=>((Sum.inr p.1:Key),p.2))=kl at kv jY
   induction kv generalizing i with
   | nil=>simp at jY
   | cons p _ ih =>
    cases i with
    | zero =>
     simp at jY hk
     subst jY
     have:=p.1
     rw[hk]at this
     exact this
    | succ i=>exact ih i (by simpa using hk) (by simpa using jY)
  subst e
  exact SY (show Value.isStrOf p.1 v=true from hi)
 ·obtain⟨hn,I'⟩:=Inv.sorted (t':=tk) (ys:=ys.map V.str) I hm (hm.at' fun o e=>k _ _ e) (fun b o _ e=>k b o e) hD new (Bz fu) (by rw[aE,p'.length_eq,aE,aI];omega)
  exact⟨.ref D,_,I',rfl,q _ ys hn p' xl⟩
theorem keyed {kvs:List (Key×V)}:∀ {ks:List Str},kvs.map (·.1)=ks.map Sum.inr -> ∃ps:List (Str×V),kvs=ps.map (fun p=>(Sum.inr p.1,p.2))/\ps.map (·.1)=ks:=by
 induction kvs with
 | nil=>intro ks h;cases ks with
  | nil=>exact⟨[],rfl,rfl⟩
  | cons _ _=>simp at h
 | cons kv kvs ih =>
  intro ks h
  cases ks with
  | nil=>simp at h
  | cons k ks =>
   simp only[cD,List.cons.injEq]at h
   obtain⟨ps,e1,e2⟩:=ih h.2
   refine⟨(k,kv.2)::ps,?_,?_⟩
   ·rw[cD,<-e1,<-h.1]
   ·rw[cD,e2]
theorem yk (hc:X.calm=true):df X (.builtin "sorted") (fun xs H Q=>∃ (d:Addr) (kvs:List (Key×V)) (ks:List Str),xs = [.ref d]/\H d=some (.dK kvs)/\kvs.map (·.1)=ks.map Sum.inr/\ks.length<=63 /\ ∀D iu,H D=none->iu.Perm ks->sortedS iu=true->Q (.ref D) (upd H D (.lst (iu.map V.str)))):=by
 intro pins s σ H xs us Q I r h
 obtain⟨d,kvs,ks,ex,hd,hk,qV,q⟩:=h
 obtain⟨ps,e1,e2⟩:=keyed hk
 subst e1
 subst e2
 exact UB hc pins s σ H xs us Q I r ⟨d,ps,ex,hd,by simpa using qV,q⟩
end
end L2
namespace L2
open PySem PySem.Spec PyProof.Rows PySem.W HT
def wm (K:Frag) (a:Addr) (n:Nat):It:=
 ⟨fun i H=>∃xs x,aj K H a xs/\xs.length=n/\i < n/\xs[n - 1 - i]? = some x,fun i H x H'=>H'=H /\ ∀xs,aj K H a xs->xs[n - 1 - i]? = some x,fun i _=>n<=i⟩
theorem WI {P:Program}{w:World}{K:Frag}{tg:Expr} (a it:Addr) (n:Nat):Turn P w K tg (wm K a n) [it] it (fun i h=>i<=n/\h.IsRevIter it a ((n:Int) - 1 - i)) where
 mem:=by simp
 obj:=fun i h st b hb=>by
  obtain rfl:b=it:=by simpa using hb
  obtain⟨_,o,e,c,d⟩:=st
  exact⟨o,e,fun v z=>by rw[d]at z;cases z⟩
 keep:=fun i h h' st k=>⟨st.1,st.2.at fun o e=>k it (by simp) o e⟩
 item:=by
  intro X hP hw hK hc i pins s σ H E I hf st hg
  subst hP hw hK
  obtain⟨xs,x,hq,hl,lt,hx⟩:=hg
  obtain⟨its,rv,p,hz⟩:=I.list hq
  obtain⟨u,hu,ru⟩:=rv.get hx
  obtain⟨f0,f1,f2,f3,f4,f5⟩:=hf it (by simp)
  have fu:s.heap.IsRevIter it a ((n - 1 - i:Nat):Int):=by
   have e:((n - 1 - i:Nat):Int)=(n:Int) - 1 - i:=by omega
   rw[e];exact st.2
  refine wpAny_pyNext_rev_item fu p.isList (x:=u) (by simpa using hu) fun h' gX sb=>?_
  have I1:Inv X pins σ H { s with heap:=h' }:=I.turned (t':=s.toks) (fun b o hb e=>(sb.2 b hb).trans e) f0 f1 f3 f4 f5
  obtain⟨o,e,c,d⟩:=id gX
  refine⟨u,rfl,vM (s:={ s with heap:=h' }) e c d (by decide) ⟨x,H,I1,ru,⟨rfl,fun ys hy=>by rw[I.vg hy hq];exact hx⟩,⟨lt,?_⟩,fun b hb=>(hf b hb).1⟩⟩
  have e2:(n:Int) - 1 - ((i+1:Nat):Int)=((n - 1 - i:Nat):Int) - 1:=by omega
  rw[e2];exact gX
 done:=by
  intro X hP hw hK hc i pins s σ H E I hf st hg
  subst hP hw hK
  obtain⟨f0,f1,f2,f3,f4,f5⟩:=hf it (by simp)
  have fu:s.heap.IsRevIter it a (-1):=by
   have z7:n<=i:=hg
   have e:(n:Int) - 1 - i = -1:=by have:=st.1;omega
   rw[<-e];exact st.2
  exact wpAny_pyNext_rev_end (I.ok.hd hc) fu fun h' eb=>⟨rfl,I.turned (t':=s.toks) (fun b o hb e=>eb b o hb e) f0 f1 f3 f4 f5⟩
 self:=fun _ _ _ _ _ st h=>wpAny_pyIter_revIter st.2 h
section
variable {X : Cx} {tg : Expr}
def aaL (K:Frag) (ta:TA):TI:=fun σ H R=>ta σ H fun vs H1=>∃a xs,vs = [.ref a]/\aj K H1 a xs/\R (wm K a xs.length) H1
theorem YB {a:Expr}{ta:TA}{p pos:Pos} (hg:Gl X "reversed") (hm:X.mg "reversed" = none) (ha:PA X [a] ta) (hs:starEach [a] X.env = [(false,eval a X.env)]:=by rfl):PI X tg (.Call (.Name "reversed" p) [a] [] pos) (aaL X.K ta):=by
 intro pins s σ H R I h
 refine Call_ (pZ I hg hm (show bootBuiltins "reversed" = some (.type "reversed") by decide +kernel) (AE (au (ha pos pins s σ H _ I h) fun us s1 ⟨vs,H1,I1,r1,q1⟩=>?_) hs rfl))
 obtain⟨l,xs,e,hq,q⟩:=q1
 subst e
 obtain⟨u,rfl,ru⟩:=r1.one
 cases ru
 obtain⟨its,rv,pl,hz⟩:=I1.list hq
 have hl:=rv.length
 refine call_reversed_list pl.isList ?_
 have gk:(s1.heap.push (revObj l ((its.toArray.size:Int) - 1))).IsRevIter s1.heap.objs.size l ((its.toArray.size:Int) - 1):=⟨_,dj _ rfl,rfl,rfl⟩
 refine wpAny_pyIter_revIter (s:={ s1 with heap:=s1.heap.push (revObj l ((its.toArray.size:Int) - 1)) }) gk ?_
 refine⟨s1.heap.objs.size,[s1.heap.objs.size],_,_,H1,rfl,I1.kept (t':=s1.toks) fun b o e=>bj _ e,WI l _ xs.length,⟨a4 _,?_⟩,fun b hb=>?_,q⟩
 ·have e:(xs.length:Int) - 1 - ((0:Nat):Int)=(its.toArray.size:Int) - 1:=by simp[hl]
  rw[e];exact gk
 ·obtain rfl:b=s1.heap.objs.size:=by simpa using hb
  exact I1.kr (aN _) (I1.ar.fresh (aN _))
end
theorem XH {K:Frag}{a:Addr}{xs:List V}{g:TG}{tb:TS}{D:Ends}{σ:St}{H:Hp} (Pv:Nat->St->Hp->Prop) (h0:Pv 0 σ H) (hl:∀i σ H,Pv i σ H->aj K H a xs)
  (hs:∀i x σ H,i < xs.length->xs[xs.length - 1 - i]? = some x->Pv i σ H->g x σ H fun fw H2=>tb { D with nx:=Pv (i+1),ct:=Pv (i+1),bk:=D.nx } fw H2) (hd:∀σ H,Pv xs.length σ H->D.nx σ H) :
  ∃W:Nat->Nat->St->Hp->Prop,(∃m,W 0 m σ H) /\ ∀i m σ H,W i m σ H ->
   ((wm K a xs.length).stop i H/\D.nx σ H)\/((wm K a xs.length).go i H /\ ∃N:St->Hp->Prop,(∀aH H',N aH H' -> ∃m',m' < m/\W (i+1) m' aH H') /\ ∀x H',(wm K a xs.length).ng i H x H'->g x σ H' fun fw H2=>tb { D with nx:=N,ct:=N,bk:=D.nx } fw H2):=by
 refine⟨fun i m σ H=>m=xs.length - i/\i<=xs.length/\Pv i σ H,⟨xs.length,by simp,a4 _,h0⟩,?_⟩
 rintro i m σ H ⟨rfl,hi,p⟩
 have q:=hl i σ H p
 by_cases lt:i < xs.length
 ·refine .inr ⟨⟨xs,xs[xs.length - 1 - i]'(by omega),q,rfl,lt,by simp⟩,Pv (i+1),fun aH H' p'=>⟨xs.length - (i+1),by omega,rfl,lt,p'⟩,fun x H' y=>?_⟩
  obtain⟨rfl,y⟩:=y
  exact hs i x σ _ lt (y xs q) p
 ·obtain rfl:i=xs.length:=by omega
  exact .inl ⟨aN _,hd σ H p⟩
end L2
namespace L2
open PySem PySem.Spec PyProof.Rows PySem.W HT
section
variable {X : Cx}
theorem Lv:df X (.builtin "len") (fun xs H Q=>∃a kvs,xs = [.ref a]/\H a=some (.dK kvs)/\Q (.int kvs.length) H):=by
 intro pins s σ H xs us Q I r h
 obtain⟨a,kvs,rfl,e,q⟩:=h
 obtain⟨u,rfl,ru⟩:=vals1 r
 cases ru
 exact Zd I (.inl e) fun t s' I'=>⟨.int _,H,I',⟨_,rfl⟩,q⟩
end
end L2
namespace L2
open PySem PySem.Spec PyProof.Rows
end L2
namespace L2
open PySem
def cj (k:Nat):List (List Str)->Str->Option (Nat×Str)
 | [],_=>none
 | []::rest,n=>cj (k+1) rest n
 | (x::r)::rest,n=>if n∈x::r/\x≠n then some (k,x) else cj (k+1) rest n
theorem Kk {k:Nat}{r:List Str}{rest:List (List Str)}{n:Str} (h : ¬ (n∈r/\r.head? ≠ some n)):cj k (r::rest) n=cj (k+1) rest n:=by
 cases r with
 | nil=>rfl
 | cons x r=>exact aq fun z=>h ⟨z.1,by simpa using z.2⟩
theorem UC {k:Nat}{x:Str}{r:List Str}{rest:List (List Str)}{n:Str} (h:n∈x::r/\x≠n):cj k ((x::r)::rest) n=some (k,x):=by
 exact aA h
def jm (all:List (List Str)):List (List Str)->Option Str
 | []=>none
 | []::rest=>jm all rest
 | (x::_)::rest=>if (cj 0 all x).isNone then some x else jm all rest
def d6 (rest:List (List Str)):Option Str:=jm rest rest
def without (n:Str) (rest:List (List Str)):List (List Str):=rest.map fun r=>r.filter fun y=>!decide (y=n)
def total (rest:List (List Str)):Nat:=(rest.map List.length).sum
def bw:Nat->List (List Str)->Option (List Str)
 | 0,_=>some []
 | k+1,rest=>if (rest.any fun r=>!r.isEmpty)=true then (match d6 rest with | none=>none | some n=>(bw k (without n rest)).map (n :: ·)) else some []
theorem yl {all:List (List Str)}{n:Str}:∀ {rest:List (List Str)},jm all rest=some n -> ∃r∈rest,r.head? = some n
 | [],h=>by cases h
 | []::rest,h=>let ⟨r,hr,e⟩:=yl (rest:=rest) h;⟨r,bU _ hr,e⟩
 | (x::t)::rest,h=>by
  have h:(if (cj 0 all x).isNone then some x else jm all rest)=some n:=h
  split at h
  ·cases h;exact⟨n::t,ba,rfl⟩
  ·obtain⟨r,hr,e⟩:=yl (rest:=rest) h
   exact⟨r,bU _ hr,e⟩
theorem Kh (n:Str):∀rest:List (List Str),total (without n rest)<=total rest
 | []=>aN _
 | r::rest=>by
  have h1:=Kh n rest
  have h2:=gP (fun y=>!decide (y=n)) r
  simp only[total,without,cD,Kb]at *
  omega
theorem rM {n:Str}:∀ {rest:List (List Str)},(∃r∈rest,n∈r)->total (without n rest) < total rest
 | [],⟨_,h,_⟩=>by simp at h
 | r::rest,⟨q,hq,hn⟩=>by
  have h1:=Kh n rest
  have h2:=gP (fun y=>!decide (y=n)) r
  rcases bq.mp hq with rfl | hq
  ·have h3:(q.filter fun y=>!decide (y=n)).length < q.length:=by
    exact List.length_filter_lt_length_iff_exists.mpr ⟨n,hn,by simp⟩
   simp only[total,without,cD,Kb]at *
   omega
  ·have h3:=rM ⟨q,hq,hn⟩
   simp only[total,without,cD,Kb]at *
   omega
theorem le_total {r:List Str}:∀ {rest:List (List Str)},r∈rest->r.length<=total rest
 | [],h=>by simp at h
 | q::rest,h=>by
  have e:total (q::rest)=q.length+total rest:=by simp[total]
  rcases bq.mp h with rfl | h
  ·omega
  ·have:=le_total h
   omega
theorem BB {rest:List (List Str)} (h:(rest.any fun r=>!r.isEmpty)=true):0 < total rest:=by
 obtain⟨r,hr,e⟩:=pN.mp h
 have h1:0 < r.length:=by cases r with
  | nil=>simp at e
  | cons _ _=>simp
 have h2:r.length<=total rest:=le_total hr
 omega
def cY (H:Hp) (vs:List V) (rows:List (List Str)):Prop:=Paired (fun y r=>∃a,y=V.ref a/\H a=some (.tup (r.map V.str))) vs rows
theorem cY.same {H H':Hp}{vs:List V}{rows:List (List Str)} (h:cY H vs rows) (s:ak H H'):cY H' vs rows:=Paired.imp' (fun _ _ ⟨a,e,q⟩=>⟨a,e,s _ _ q⟩) h
theorem cY.length {H:Hp}{vs:List V}{rows:List (List Str)} (h:cY H vs rows):vs.length=rows.length:=ll h
theorem cY.get {H:Hp}:∀ {vs:List V}{rows:List (List Str)}{i:Nat}{v:V},cY H vs rows->vs[i]? = some v -> ∃a r,v=V.ref a/\rows[i]? = some r/\H a=some (.tup (r.map V.str))
 | _,_,i,v,.nil,e=>by simp at e
 | _,_,0,v,.cons p _,e=>by
  obtain⟨a,rfl,q⟩:=p
  simp at e;subst e
  exact⟨a,_,rfl,rfl,q⟩
 | _,_,i+1,v,.cons _ t,e=>by
  obtain⟨a,r,e1,e2,q⟩:=cY.get (i:=i) t (by simpa using e)
  exact⟨a,r,e1,by simpa using e2,q⟩
theorem cY.append {H:Hp}{vs:List V}{rows:List (List Str)}{a:Addr}{r:List Str}:cY H vs rows->H a=some (.tup (r.map V.str))->cY H (vs ++ [.ref a]) (rows ++ [r])
 | .nil,q=>.cons ⟨a,rfl,q⟩ .nil
 | .cons p t,q=>.cons p (cY.append t q)
end L2
namespace aX
open PySem L2 PySem.W
def top (i:Nat):Stmt:=PySem.Challenge.pw_parentlines_k27_changed_and_back.main.body.getD i (.Pass ⟨0,0,0,0⟩)
abbrev ko:Stmt:=inClass (top 14) 0
abbrev n4:Stmt:=top 19
abbrev sk:Stmt:=top 20
abbrev n5:Stmt:=top 22
abbrev qf:Stmt:=top 23
abbrev mX:Stmt:=top 24
abbrev my:Stmt:=top 25
abbrev oh:Stmt:=top 26
abbrev sq:Stmt:=top 29
abbrev oE:Stmt:=top 30
abbrev sr:Stmt:=top 31
abbrev mz:Stmt:=top 32
abbrev nU:Stmt:=top 33
abbrev su:Stmt:=top 34
abbrev oi:Stmt:=top 35
abbrev tH:Stmt:=top 36
abbrev sV:Stmt:=top 38
abbrev sf:Stmt:=top 39
abbrev sN:Stmt:=top 40
abbrev sv:Stmt:=top 41
abbrev sX:Stmt:=top 42
abbrev nV:Stmt:=top 43
abbrev tJ:Stmt:=top 45
abbrev oj:Stmt:=top 46
abbrev jU:Stmt:=top 47
abbrev jn:Stmt:=top 48
abbrev om:Stmt:=top 49
abbrev rX:Stmt:=top 50
abbrev nW:Stmt:=top 51
abbrev sY:Stmt:=top 52
abbrev jQ:Stmt:=top 53
abbrev sC:Stmt:=top 54
abbrev oq:Stmt:=top 55
abbrev lL:Stmt:=top 56
abbrev sZ:Stmt:=top 57
abbrev kI:Stmt:=top 58
structure eK (mg:Str->Option Value):Prop where
 len:mg "len" = none
 max:mg "max" = none
 min:mg "min" = none
 abs:mg "abs" = none
 range:mg "range" = none
 any:mg "any" = none
 all:mg "all" = none
 list:mg "list" = none
 tuple:mg "tuple" = none
 enu:mg "enumerate" = none
theorem jG {y:Str}{r:List Str}:ee ((y::r).map V.str) 0=some (V.str y):=(show ee ((y::r).map V.str) ((0:Nat):Int)=some (V.str y) from eO rfl)
theorem aF {H:Hp}{q:Addr}{o:HO} (hq:H q=none):ak H (upd H q o):=fun b u e=>by rw[ah (ao e hq)];exact e
theorem WJ {K:Frag}{a:Addr}{xs:List V}{g:TG}{tb:TS}{D:Ends}{σ:St}{H:Hp} (Pv:Nat->St->Hp->Prop) (h0:Pv 0 σ H) (hl:∀i σ H,i<=xs.length->Pv i σ H->aj K H a xs)
  (hs:∀i x σ H t,xs[i]? = some x->Pv i σ H->H t=none->g (.ref t) σ (upd H t (.tup [.int i,x])) fun fw H2=>tb { D with nx:=Pv (i+1),ct:=Pv (i+1),bk:=D.nx } fw H2) (hd:∀σ H,Pv xs.length σ H->D.nx σ H) :
  ∃W:Nat->Nat->St->Hp->Prop,(∃m,W 0 m σ H) /\ ∀i m σ H,W i m σ H ->
   ((w8 K a).stop i H/\D.nx σ H)\/((w8 K a).go i H /\ ∃N:St->Hp->Prop,(∀aH H',N aH H' -> ∃m',m' < m/\W (i+1) m' aH H') /\ ∀x H',(w8 K a).ng i H x H'->g x σ H' fun fw H2=>tb { D with nx:=N,ct:=N,bk:=D.nx } fw H2):=by
 refine⟨fun i m σ H=>m=xs.length - i/\i<=xs.length/\Pv i σ H,⟨xs.length,by simp,a4 _,h0⟩,?_⟩
 rintro i m σ H ⟨rfl,hi,p⟩
 have q:=hl i σ H hi p
 by_cases aS:i < xs.length
 ·refine .inr ⟨⟨xs,xs[i],q,by simp[aS]⟩,Pv (i+1),fun aH H' p'=>⟨xs.length - (i+1),by omega,rfl,aS,p'⟩,fun x H' y=>?_⟩
  obtain⟨t,v,ht,rfl,hv,rfl⟩:=y
  exact hs i v σ _ t (hv xs q) p ht
 ·have e:i=xs.length:=by omega
  subst e
  exact .inl ⟨⟨xs,q,aN _⟩,hd σ H p⟩
section
variable {P : Program} {w : World} {K : Frag} {mg : Str -> Option Value} {base : Heap} {f : Addr} {fd : FuncData}
@[irreducible] def qg:Sp:=fun vs H Q _=>∃ (l:Addr) (ws:List V) (rows:List (List Str)) (n:Str),vs = [.ref l,.str n]/\H l=some (.lst ws)/\cY H ws rows /\
 (cj 0 rows n=none -> ∀H',ak H H'->Q .aD H')/\(∀i x,cj 0 rows n=some (i,x) -> ∀p H',H p=none->ak H H'->H' p=some (.tup [.int i,.str x,.str n])->Q (.ref p) H')
theorem Cm:bZ ["rest", "name", "at", "row"] ["rest", "name"] (ay mX):=⟨rfl,rfl,rfl,by decide +kernel,rfl,by decide +kernel,by decide +kernel⟩
theorem ME (F:aZ K "wish_against" "wish_against" mX f fd) (B:eK mg):aG P w K mg base aL 1 f fd ["rest", "name"] qg:=by
 refine F.ok Cm (fun vs H Q E h=>?_) (fun cdv A outer s H vs Q E hr h=>?_)
 ·unfold qg at h;obtain⟨l,ws,rows,n,rfl,_⟩:=h;rfl
 ·unfold qg at h
  obtain⟨l,ws,rows,n,rfl,hl,hR,qn,qs⟩:=h
  refine⟨_,aC (jr jM rfl (Xk rfl B.enu (ae (pv 0) ai)) (sI rfl (gQ (a8 (i:=2) Cm.nd rfl (Or.inl rfl)) (gQ (a8 (i:=3) Cm.nd rfl (Or.inl rfl)) nY)))
    (aM (cN (PW.pt (pw_and (cE Bt (pv 1) (pv 3) rfl) (pw_and1 (cE vN (cz og (pv 3) aP (fun _ _=>rfl)) (pv 1) (cP _)))))
     (aM (bo (mw (ae (pv 2) (ae (cz og (pv 3) aP (fun _ _=>rfl)) (ae (pv 1) ai)))))) cM)))
   (aM (bo iE)),?_⟩
  refine⟨_,rfl,l,rfl,⟨_,aj.of hl⟩,WJ (xs:=ws) (fun i σ H1=>∃v2 v3:Option V,σ = [some (.ref l),some (.str n),v2,v3]/\ak H H1/\cj i (rows.drop i) n=cj 0 rows n) ⟨none,none,rfl,ak.refl _,by simp⟩ (fun i σ H1 _ ⟨_,_,_,z,_⟩=>aj.of (z _ _ hl)) ?_ ?_⟩
  ·rintro i x σ H1 t hx ⟨v2,v3,rfl,S1,hw⟩ ht
   obtain⟨a,r,rfl,gD,fV⟩:=hR.get hx
   have S2:ak H (upd H1 t (.tup [.int i,.ref a])):=S1.trans (aF ht)
   have lg:=S2 _ _ fV
   have G7:rows.drop i=r::rows.drop (i+1):=by
    have hi:=(b9.mp gD)
    obtain⟨qX,rfl⟩:=hi
    exact AN qX
   rw[G7]at hw
   refine⟨t,_,rfl,aJ.of ag,rfl,_,_,rfl,_,_,rfl,rfl,?_⟩
   refine⟨_,rfl,_,rfl,a,_,rfl,.inr (aJ.of lg),rfl,jN _,_,rfl,?_⟩
   rw[aq cU,ke]
   refine eF (fun bg=>?_) (fun bg=>?_)
   ·have lM:n∈r:=by simpa using bg
    cases r with
    | nil=>simp at lM
    | cons y r =>
     refine⟨_,rfl,a,_,0,.str y,rfl,rfl,aJ.of lg,jG,_,rfl,rfl,_,rfl,?_⟩
     refine eF (fun bc=>?_) (fun bc=>?_)
     ·have i5:y≠n:=fun z=>by subst z;simp at bc
      refine⟨_,rfl,_,rfl,a,_,0,.str y,rfl,rfl,aJ.of lg,jG,_,rfl,by show 3<=sizeLine;rw[aI];decide,fun p hp=>?_⟩
      rw[UC ⟨lM,i5⟩]at hw
      exact qs i y hw.symm p _ (S2.free hp) (S2.trans (aF hp)) ag
     ·have hy:y=n:=by
       by_cases z:y=n
       ·exact z
       ·exact absurd (by simp[z]) bc
      refine⟨_,_,rfl,S2,?_⟩
      rw[<-hw,Kk fun z=>z.2 (by rw[hy];rfl)]
   ·refine⟨_,_,rfl,S2,?_⟩
    rw[<-hw,Kk fun z=>bg (by simpa using z.1)]
  ·rintro σ H1 ⟨v2,v3,rfl,S1,hw⟩
   rw[hR.length,Kc]at hw
   exact qn hw.symm H1 S1
theorem MF {l:Addr}{ws:List V}{rows:List (List Str)}{n:Str}{H:Hp}{Q:VK}{E:XK} (hl:H l=some (.lst ws)) (hR:cY H ws rows) (qn:cj 0 rows n=none -> ∀H',ak H H'->Q .aD H')
  (qs:∀i x,cj 0 rows n=some (i,x) -> ∀p H',H p=none->ak H H'->H' p=some (.tup [.int i,.str x,.str n])->Q (.ref p) H'):qg [.ref l,.str n] H Q E:=by
 unfold qg;exact⟨l,ws,rows,n,rfl,hl,hR,qn,qs⟩
end
end aX
namespace aX
open PySem L2 PySem.W
section
variable {P : Program} {w : World} {K : Frag} {mg : Str -> Option Value} {base : Heap} {f : Addr} {fd : FuncData}
def Dk:Option Str->V
 | none=>.aD
 | some n=>.str n
@[irreducible] def sD:Sp:=fun vs H Q _=>∃ (l:Addr) (ws:List V) (rows:List (List Str)),vs = [.ref l]/\H l=some (.lst ws)/\cY H ws rows /\ ∀H',ak H H'->Q (Dk (d6 rows)) H'
theorem MG:bZ ["rest", "row"] ["rest"] (ay qf):=⟨rfl,rfl,rfl,by decide +kernel,rfl,by decide +kernel,by decide +kernel⟩
theorem WK {fW:Addr}{lV:FuncData} (F:aZ K "least_free" "least_free" qf f fd) (B:eK mg) (FW:aZ K "wish_against" "wish_against" mX fW lV) (bW:Binds K lV ["rest", "name"] []) (mW:mg "wish_against" = some (.ref fW)) :
  aG P w K mg base aL 2 f fd ["rest"] sD:=by
 have GW:aG P w K mg base aL 1 fW lV ["rest", "name"] qg:=ME FW B
 refine F.ok MG (fun vs H Q E h=>?_) (fun cdv A outer s H vs Q E hr h=>?_)
 ·unfold sD at h;obtain⟨l,ws,rows,rfl,_⟩:=h;rfl
 ·unfold sD at h
  obtain⟨l,ws,rows,rfl,hl,hR,q⟩:=h
  have cC:aT 1 _:=hr
  refine⟨_,aC (jr jM rfl (gG (pv 0)) (a8 (i:=1) MG.nd rfl (Or.inl rfl))
    (aM (cN (PW.pt (pw_and (pV (pv 1) (fun _=>rfl)) (pw_and1 (cE vz (aR GW cC rfl mW FW.kp bW .nil aV (ae (pv 0) (ae (cz og (pv 1) aP (fun _ _=>rfl)) ai))) iE (cP _)))))
     (aM (bo (cz og (pv 1) aP (fun _ _=>rfl)))) cM)))
   (aM (bo iE)),?_⟩
  refine⟨_,rfl,l,rfl,⟨_,aj.of hl⟩,yA (xs:=ws) (fun i σ H1=>∃v1:Option V,σ = [some (.ref l),v1]/\ak H H1/\jm rows (rows.drop i)=d6 rows) ⟨none,rfl,ak.refl _,by simp[d6]⟩ (fun i σ H1 _ ⟨_,_,z,_⟩=>aj.of (z _ _ hl)) ?_ ?_⟩
  ·rintro i x σ H1 hx ⟨v1,rfl,S1,hw⟩
   obtain⟨a,r,rfl,gD,fV⟩:=hR.get hx
   have iw:=S1 _ _ fV
   have G7:rows.drop i=r::rows.drop (i+1):=by
    obtain⟨qX,rfl⟩:=b9.mp gD
    exact AN qX
   rw[G7]at hw
   refine⟨_,rfl,!(r.map V.str).isEmpty,.inr (.inl ⟨_,aJ.of iw,rfl⟩),?_⟩
   cases r with
   | nil=>exact⟨_,rfl,S1,hw⟩
   | cons y r =>
    have hw:(if (cj 0 rows y).isNone then some y else jm rows (rows.drop (i+1)))=d6 rows:=hw
    refine⟨_,rfl,_,rfl,a,_,0,.str y,rfl,rfl,aJ.of iw,jG,?_⟩
    refine MF (S1 _ _ hl) (hR.same S1) (fun en H2 S2=>?_) (fun j z es p H2 hp S2 h2=>?_)
    ·refine⟨rfl,_,rfl,?_⟩
     refine⟨_,rfl,a,_,0,.str y,rfl,rfl,aJ.of (S2 _ _ iw),jG,?_⟩
     rw[en]at hw
     have e:d6 rows=some y:=hw.symm
     have:=q H2 (S1.trans S2)
     rw[e]at this
     exact this
    ·refine⟨rfl,_,rfl,?_⟩
     rw[es]at hw
     exact⟨_,rfl,S1.trans S2,hw⟩
  ·rintro σ H1 ⟨v1,rfl,S1,hw⟩
   rw[hR.length,Kc]at hw
   have e:d6 rows=none:=hw.symm
   have:=q H1 S1
   rw[e]at this
   exact this
theorem WL {l:Addr}{ws:List V}{rows:List (List Str)}{H:Hp}{Q:VK}{E:XK} (hl:H l=some (.lst ws)) (hR:cY H ws rows) (q:∀H',ak H H'->Q (Dk (d6 rows)) H'):sD [.ref l] H Q E:=by
 unfold sD;exact⟨l,ws,rows,rfl,hl,hR,q⟩
end
end aX
namespace aX
open PySem L2 PySem.W
theorem Lw {x:Str} (h:Nm x):(x.cps.toList.all fun c=>decide (c < 16 ^ 8))=true:=by
 rw[pM];intro c hc;have:=(h.az c hc).2;exact gO (by omega)
def oF (H:Hp) (v:V):Prop:= ∃ (a:Addr) (i:Nat) (x n:Str),v = .ref a/\H a=some (.tup [.int i,.str x,.str n])/\i < 10/\Nm x/\Nm n
theorem oF.same {H H':Hp}{v:V} (h:oF H v) (s:ak H H'):oF H' v:=let ⟨a,i,x,n,e,q,r⟩:=h;⟨a,i,x,n,e,s _ _ q,r⟩
theorem VU:∀i:Nat,i < 10->PyData.leavesShort 13 (.int i)=true/\PyData.showable (.int i)=true:=by decide +kernel
theorem Kz {H:Hp}:∀ {vs:List V},(∀v∈vs,oF H v) -> ∃ds,gq H vs ds/\PyData.showableAll ds=true/\PyData.hasDictAll ds=false/\PyData.depthAll ds<=1/\PyData.leavesShortAll 13 ds=true/\PyData.bulkAll ds<=25 * vs.length
 | [],_=>⟨[],.nil,rfl,rfl,a4 _,rfl,a4 _⟩
 | v::vs,h=>by
  obtain⟨ds,h1,h2,h3,h4,h5,h6⟩:=Kz (vs:=vs) fun u hu=>h u (bU _ hu)
  obtain⟨a,i,x,n,rfl,ha,hi,hx,hn⟩:=h v ba
  obtain⟨s1,s2⟩:=VU i hi
  have s1':PyData.leavesShort 13 (.int (i:Int))=true:=s1
  have s2':PyData.showable (.int (i:Int))=true:=s2
  have z1:x.cps.size<=8:=hx.hi
  have z2:n.cps.size<=8:=hn.hi
  refine⟨.tuple [.int i,.str x,.str n]::ds,.cons (.tup ha (.cons (.int _) (.cons (.str _) (.cons (.str _) .nil)))) h1,?_,?_,?_,?_,?_⟩
  ·simp only[PyData.showableAll,PyData.showable,h2,T8]
   simpa [PyData.showable] using s2'
  ·simp only[PyData.hasDictAll,PyData.hasDict,h3,Bool.or_false]
  ·simp only[PyData.depthAll,PyData.depth];omega
  ·simp only[PyData.leavesShortAll,PyData.leavesShort,h5,Lw hx,Lw hn,T8]
   simpa [PyData.leavesShort] using s1'
  ·simp only[PyData.bulkAll,PyData.bulk,dZ];omega
theorem KS {H:Hp}{p:Addr}{vs:List V} (hp:H p=some (.tup vs)) (h:∀v∈vs,oF H v) (bb:vs.length<=100):lE H (.ref p):=by
 obtain⟨ds,h1,h2,h3,h4,h5,h6⟩:=Kz h
 refine .inr (.inr ⟨p,.tuple ds,rfl,.tup hp h1,h2,h3,?_,?_⟩)
 ·simp only[PyData.depth];omega
 ·have:=PyData.shown_le_bulk 13 (by decide) (.tuple ds) h5
  simp only[PyData.bulk]at this
  omega
def heads (rows:List (List Str)):List Str:=rows.filterMap List.head?
theorem rY (rows:List (List Str)):(heads rows).length<=rows.length:=TF _ _
theorem mn {rows:List (List Str)}{n:Str}:n∈heads rows ↔ ∃r∈rows,r.head? = some n:=by
 unfold heads;rw[pG]
theorem A8:∀ {rows:List (List Str)}{k:Nat}{n:Str}{i:Nat}{x:Str},cj k rows n=some (i,x)->k<=i/\i < k+rows.length/\x∈heads rows
 | [],k,n,i,x,h=>by cases h
 | []::rest,k,n,i,x,h=>by
  obtain⟨h1,h2,h3⟩:=A8 (rows:=rest) (k:=k+1) (n:=n) h
  refine⟨by omega,by simp only[dZ];omega,?_⟩
  obtain⟨r,hr,e⟩:=mn.mp h3
  exact mn.mpr ⟨r,bU _ hr,e⟩
 | (y::r)::rest,k,n,i,x,h=>by
  have h:(if n∈y::r/\y≠n then some (k,y) else cj (k+1) rest n)=some (i,x):=h
  split at h
  ·cases h
   exact⟨aN _,by simp only[dZ];omega,mn.mpr ⟨_::r,ba,rfl⟩⟩
  ·obtain⟨h1,h2,h3⟩:=A8 (rows:=rest) (k:=k+1) (n:=n) h
   refine⟨by omega,by simp only[dZ];omega,?_⟩
   obtain⟨r',hr,e⟩:=mn.mp h3
   exact mn.mpr ⟨r',bU _ hr,e⟩
theorem ym {all:List (List Str)}:∀ {rest:List (List Str)},jm all rest=none -> ∀n∈heads rest,cj 0 all n≠none
 | [],_,n,hn=>by simp[heads]at hn
 | []::rest,h,n,hn=>ym (rest:=rest) h n hn
 | (y::r)::rest,h,n,hn=>by
  have h:(if (cj 0 all y).isNone then some y else jm all rest)=none:=h
  split at h
  ·cases h
  next hy =>
   have hn:n∈y::heads rest:=hn
   rcases bq.mp hn with rfl | hn
   ·intro z;rw[z]at hy;exact hy rfl
   ·exact ym h n hn
end aX
namespace aX
open PySem L2 PySem.W
abbrev Wi:=Nat×Str×Str
def lF (rows:List (List Str)):Nat->Str->List Str->List Wi->List Wi
 | 0,_,_,_=>[]
 | k+1,nm,ps,ws=>if nm∈ps then (ws.drop (ps.idxOf nm)).reverse else
  match cj 0 rows nm with
  | some (i,x)=>lF rows k x (ps ++ [nm]) (ws ++ [(i,x,nm)])
  | none=>[]
def ou (rows:List (List Str)):List Wi:=lF rows (rows.length+1) ((heads rows).headD "") [] []
structure qk (At:Wi->Prop) (most:Nat) (W:List Wi):Prop where
 len:2<=W.length
 bb:W.length<=most
 at_:∀w∈W,At w
 turn:(W.map (·.2.1)).drop 1++(W.map (·.2.1)).take 1=W.map (·.2.2)
 nd:(W.map (·.2.1)).Nodup
def vF (rows:List (List Str)) (w:Wi):Prop:= ∃r,rows[w.1]? = some (w.2.1::r)/\w.2.2∈r/\w.2.1≠w.2.2
theorem A9:∀ {rows:List (List Str)}{k:Nat}{n:Str}{i:Nat}{x:Str},cj k rows n=some (i,x) -> ∃j r,i=k+j/\rows[j]? = some (x::r)/\n∈r/\x≠n
 | [],k,n,i,x,h=>by cases h
 | []::rest,k,n,i,x,h=>by
  obtain⟨j,r,h1,h2,h3⟩:=A9 (rows:=rest) (k:=k+1) (n:=n) h
  exact⟨j+1,r,by omega,by simpa using h2,h3⟩
 | (y::r)::rest,k,n,i,x,h=>by
  have h:(if n∈y::r/\y≠n then some (k,y) else cj (k+1) rest n)=some (i,x):=h
  split at h
  next c =>
   cases h
   refine⟨0,r,rfl,rfl,?_,c.2⟩
   rcases bq.mp c.1 with z | z
   ·exact absurd z.symm c.2
   ·exact z
  ·obtain⟨j,r',h1,h2,h3⟩:=A9 (rows:=rest) (k:=k+1) (n:=n) h
   exact⟨j+1,r',by omega,by simpa using h2,h3⟩
theorem Cn {ps hs:List Str} (nd:ps.Nodup) (h:∀n∈ps,n∈hs):ps.length<=hs.length:=by
 by_cases z:ps.length<=hs.length
 ·exact z
 ·obtain⟨y,hy,hn⟩:=yP (found:=hs) nd (by omega)
  exact absurd (h y hy) hn
theorem Lx {rows:List (List Str)} (hF:d6 rows=none):∀ {k:Nat}{nm:Str}{ps:List Str}{ws:List Wi},nm∈heads rows->(∀n∈ps,n∈heads rows)->ps.Nodup->(∀w∈ws,vF rows w)->ws.map (·.2.2)=ps->ws.map (·.2.1)=(ps ++ [nm]).tail ->
  k+ps.length=rows.length+1->qk (vF rows) rows.length (lF rows k nm ps ws)
 | 0,nm,ps,ws,hn,hp,nd,hw,e1,e2,hk=>by
  have:=Cn nd hp
  have:=rY rows
  omega
 | k+1,nm,ps,ws,hn,hp,nd,hw,e1,e2,hk=>by
  unfold lF
  by_cases c:nm∈ps
  ·rw[aA c]
   have hj:ps.idxOf nm < ps.length:=List.idxOf_lt_length_iff.mpr c
   obtain⟨j,z8⟩:∃j,ps.idxOf nm=j:=⟨_,rfl⟩
   have z4:ps[j]? = some nm:=by rw[<-z8];rw[br hj];exact eT some (List.getElem_idxOf hj)
   rw[z8]at hj ⊢
   have d1:ps.drop j=nm::ps.drop (j+1):=by
    rw[AN hj]
    rw[br hj]at z4
    rw[gF z4]
   generalize ht:ps.drop (j+1)=t at d1
   have f2:(ws.drop j).map (·.2.2)=nm::t:=by rw[T9,e1,d1]
   have f1:(ws.drop j).map (·.2.1)=t ++ [nm]:=by
    rw[T9,e2,<-List.drop_one,List.drop_drop,Nat.add_comm 1 j,List.drop_append_of_le_length (by omega),ht]
   have ux:(nm::t).Nodup:=by rw[<-d1];exact nd.sublist (List.drop_sublist _ _)
   have l1:(ws.drop j).length=t.length+1:=by
    have:=eT List.length f2
    rwa [aE,dZ]at this
   have sub:∀w∈ws.drop j,vF rows w:=fun w h=>hw w (Kd h)
   generalize ws.drop j=U at f1 f2 l1 sub
   have tne:t ≠ []:=by
    rintro rfl
    match U,f1,f2,sub with
    | [w],f1,f2,sub =>
     obtain⟨r,_,_,ne⟩:=sub w ba
     have g1:w.2.1=nm:=by simpa using f1
     have g2:w.2.2=nm:=by simpa using f2
     exact ne (g1.trans g2.symm)
   have tl:1<=t.length:=aln.mpr tne
   refine⟨by rw[JX];omega,?_,fun w h=>sub w (T'.mp h),?_,?_⟩
   ·have q1:=Cn ux (hs:=heads rows) fun n h=>by
     rw[<-d1]at h;exact hp n (Kd h)
    have q2:=rY rows
    rw[dZ]at q1
    rw[JX];omega
   ·rw[Ua,Ua,f1,f2];simp
   ·rw[Ua,f1]
    rw[List.reverse_append];exact ix.mpr ⟨fun z=>(ix.mp ux).1 (T'.mp z),(List.reverse_perm t).nodup_iff.mpr (ix.mp ux).2⟩
  ·rw[aq c]
   have nn:cj 0 rows nm≠none:=ym hF nm hn
   cases e:cj 0 rows nm with
   | none=>exact absurd e nn
   | some w =>
    obtain⟨i,x⟩:=w
    obtain⟨j,r,hi,hr,hnr,ne⟩:=A9 e
    have ij:i=j:=by omega
    subst ij
    refine Lx hF (mn.mpr ⟨_,j8 hr,rfl⟩) (fun n h=>?_) ?_ (fun w h=>?_) ?_ ?_ ?_
    ·rcases dk.mp h with h | h
     ·exact hp n h
     ·rw[eN.mp h];exact hn
    ·rw[lr]
     exact⟨nd,by simp,fun a ha b hb=>by rw[eN.mp hb];exact fun z=>c (z ▸ ha)⟩
    ·rcases dk.mp h with h | h
     ·exact hw w h
     ·rw[eN.mp h];exact⟨r,hr,hnr,ne⟩
    ·rw[bV,e1];rfl
    ·rw[bV,e2]
     cases ps with
     | nil=>rfl
     | cons y ps=>simp
    ·rw[c9,j9];omega
theorem XI {rows:List (List Str)} (hF:d6 rows=none) (hA:(rows.any fun r=>!r.isEmpty)=true):qk (vF rows) rows.length (ou rows):=by
 unfold ou
 have:(heads rows).headD "" ∈ heads rows:=by
  obtain⟨r,hr,e⟩:=pN.mp hA
  cases r with
  | nil=>simp at e
  | cons y r =>
   have:y∈heads rows:=mn.mpr ⟨_,hr,rfl⟩
   cases q:heads rows with
   | nil=>rw[q]at this;simp at this
   | cons a t=>exact ba
 exact Lx hF this (by simp) rG (by simp) rfl rfl (by simp)
def Co (rows:List (List Str)) (w:Wi):Prop:= ∃pre post,rows[w.1]? = some (pre++w.2.1::post)/\w.2.2∈post/\w.2.1 ∉ pre/\w.2.2 ∉ pre/\w.2.1≠w.2.2
def Cut (rows rest:List (List Str)):Prop:=rest.length=rows.length /\ ∀ (i:Nat) (r:List Str),rest[i]? = some r -> ∃ (r0:List Str) (p:Str->Bool),rows[i]? = some r0/\r=r0.filter p
theorem Cut.refl (rows:List (List Str)):Cut rows rows:=⟨rfl,fun i r e=>⟨r,fun _=>true,e,(Ub.mpr fun _ _=>rfl).symm⟩⟩
theorem Cut.without {rows rest:List (List Str)} (h:Cut rows rest) (n:Str):Cut rows (L2.without n rest):=by
 refine⟨by unfold L2.without;rw[aE];exact h.1,fun i r e=>?_⟩
 unfold L2.without at e
 rw[f6]at e
 obtain⟨q,hq,rfl⟩:=iS.mp e
 obtain⟨r0,p,h0,rfl⟩:=h.2 i q hq
 exact⟨r0,_,h0,by rw[List.filter_filter]⟩
theorem Cut.jV {rows rest:List (List Str)} (h:Cut rows rest) {w:Wi} (q:vF rest w):Co rows w:=by
 obtain⟨r,hr,hn,ne⟩:=q
 obtain⟨r0,p,h0,e⟩:=h.2 _ _ hr
 obtain⟨l1,l2,rfl,a1,a2,a3⟩:=List.filter_eq_cons_iff.mp e.symm
 have zG:w.2.2∈l2/\p w.2.2=true:=by rw[<-a3]at hn;exact hV.mp hn
 exact⟨l1,l2,h0,zG.1,fun z=>a1 _ z a2,fun z=>a1 _ z zG.2,ne⟩
theorem qk.imp {At Qp:Wi->Prop}{m:Nat}{W:List Wi} (h:qk At m W) (f:∀w,At w->Qp w):qk Qp m W:=⟨h.len,h.bb,fun w q=>f w (h.at_ w q),h.turn,h.nd⟩
def qh:Nat->List (List Str)->List (List Str)
 | 0,rest=>rest
 | k+1,rest=>match d6 rest with
  | some n=>qh k (L2.without n rest)
  | none=>rest
theorem Vg {k:Nat}{rest:List (List Str)}{n:Str} (h:d6 rest=some n):qh (k+1) rest=qh k (L2.without n rest):=by
 show(match d6 rest with | some n=>_ | none=>_)=_
 rw[h]
theorem Vh {k:Nat}{rest:List (List Str)} (h:d6 rest=none):qh k rest=rest:=by
 cases k with
 | zero=>rfl
 | succ k=>show(match d6 rest with | some n=>_ | none=>_)=_;rw[h]
def tf (rows:List (List Str)):List Wi:=ou (qh 1000 rows)
theorem XJ {rows:List (List Str)}{k:Nat}{nm x:Str}{ps:List Str}{W:List Wi}{j:Nat} (h:nm ∉ ps) (e:cj 0 rows nm=some (j,x)):lF rows (k+1) nm ps W=lF rows k x (ps ++ [nm]) (W ++ [(j,x,nm)]):=by
 rw[lF,aq h,e]
theorem WM {rows:List (List Str)}{k:Nat}{nm:Str}{ps:List Str}{W:List Wi} (h:nm∈ps):lF rows (k+1) nm ps W=(W.drop (ps.idxOf nm)).reverse:=by
 rw[lF,aA h]
theorem Ly:∀ {ps:List Str}{n:Str}{j:Nat},ps[j]? = some n->(∀m:Nat,m < j->ps[m]? ≠ some n)->ps.idxOf n=j
 | [],n,j,h,_=>by simp at h
 | x::ps,n,0,h,_=>by
  have:x=n:=by simpa using h
  rw[this];exact List.idxOf_cons_self
 | x::ps,n,j+1,h,q=>by
  have ne:x≠n:=fun z=>q 0 (by omega) (by simp[z])
  rw[List.idxOf_cons,show(x==n)=false from nI.mpr ne,cond_false,Ly (j:=j) (by simpa using h) fun m hm=>by simpa using q (m+1) (by omega)]
def j4 (H:Hp):List V->List Wi->Prop:=Paired fun v w=>∃a,v=V.ref a/\H a=some (.tup [.int w.1,.str w.2.1,.str w.2.2])
theorem Lz {H:Hp}{vs:List V}{W:List Wi}{v:V}{w:Wi} (h:j4 H vs W) (q:∃a,v=V.ref a/\H a=some (.tup [.int w.1,.str w.2.1,.str w.2.2])):j4 H (vs ++ [v]) (W ++ [w]):=by
 induction h with
 | nil=>exact .cons q .nil
 | cons p _ ih=>exact .cons p ih
theorem XM {H:Hp}{vs:List V}{W:List Wi}{j:Nat} (h:j4 H vs W):j4 H (vs.drop j) (W.drop j):=by
 induction h generalizing j with
 | nil=>simp;exact .nil
 | cons p t ih =>
  cases j with
  | zero=>exact .cons p t
  | succ j=>exact ih
theorem YC {H:Hp}{vs:List V}{W:List Wi} (h:j4 H vs W):j4 H vs.reverse W.reverse:=by
 induction h with
 | nil=>exact .nil
 | cons p t ih=>rw[JK,JK];exact Lz ih p
theorem WN (xs:List V) (k:Nat):gu xs (some (k:Int)) none=xs.drop k:=by
 unfold gu;rw[HT.LK,HT.Mm]
 by_cases h:k<=xs.length
 ·rw[Nat.min_eq_left h,T7 (by rw[Ts];omega)]
 ·rw[Nat.min_eq_right (by omega),Kc,TL (by omega)];simp
end aX
namespace aX
open PySem L2 PySem.W
theorem Vi {X:Cx}{a:Expr}{ta:TE} (K:Frag) (h:X.K=K) (ha:PE X a ta) (he:∀whole,isTrue a X.env whole=(do let v <- whole;standAt a.pos;holding [v] (truthy v))) :
  PT X a (fun σ H Q=>ta σ H fun x H'=>∃k,C5 K x H' k/\Q k H'):=by subst h;exact pV ha he
def vv (s:Stmt):List Stmt:=match s with | .For _ _ b _ _=>b | _=>[]
def vf (s:Stmt):List Stmt:=match s with | .While _ b _ _=>b | _=>[]
def cw (l:List Stmt) (i:Nat):Stmt:=l.getD i (.Pass ⟨0,0,0,0⟩)
def eW (s:Stmt):Expr:=match s with | .Assign _ v _=>v | _=>.Constant .none 0 ⟨0,0,0,0⟩
def wo (s:Stmt):Expr:=match s with | .Return (some v) _=>v | _=>.Constant .none 0 ⟨0,0,0,0⟩
def ig (e:Expr):Expr:=match e with | .Call _ (a::_) _ _=>a | _=>.Constant .none 0 ⟨0,0,0,0⟩
def Oi (e:Expr):Expr:=match e with | .Subscript a _ _=>a | _=>.Constant .none 0 ⟨0,0,0,0⟩
def Ny (e:Expr):Expr:=match e with | .ListComp x _ _ _=>x | _=>.Constant .none 0 ⟨0,0,0,0⟩
def cR (e:Expr):Scope:=match e with | .ListComp _ _ sc _=>sc | _=>{ kind:= .function,names:= [],isGenerator:=false,isCoroutine:=false }
theorem boot_tuple:bootBuiltins "tuple" = some (.type "tuple"):=by decide +kernel
theorem boot_list:bootBuiltins "list" = some (.type "list"):=by decide +kernel
section
variable {P : Program} {w : World} {K : Frag} {mg : Str -> Option Value} {base : Heap} {f : Addr} {fd : FuncData}
structure Small (rows:List (List Str)):Prop where
 bb:rows.length<=10
 short:∀r∈rows,r.length<=20
 nm:∀r∈rows,∀n∈r,Nm n
theorem Small.head {rows:List (List Str)} (S:Small rows) {n:Str} (h:n∈heads rows):Nm n:=by
 obtain⟨r,hr,e⟩:=mn.mp h
 exact S.nm r hr n (Uc e)
@[irreducible] def sE:Sp:=fun vs H Q _=>∃ (l:Addr) (ws:List V) (rows:List (List Str)),vs = [.ref l]/\H l=some (.lst ws)/\cY H ws rows/\Small rows/\d6 rows=none/\(rows.any fun r=>!r.isEmpty)=true /\
 ∀p vs H',ak H H'->H p=none->H' p=some (.tup vs)->j4 H' vs (ou rows)->lE H' (.ref p)->Q (.ref p) H'
abbrev M6:List Str:= ["rest", "name", "passed", "wishes", "wish", "around"]
theorem pW:bZ M6 ["rest"] (ay my):=⟨rfl,rfl,rfl,by decide +kernel,rfl,by decide +kernel,by decide +kernel⟩
abbrev aaM:Scope:=cR (Oi (eW (cw (aQ my) 0)))
theorem Oj:cf M6 (ay my) ["row"] [none] aaM:=⟨rfl,by decide +kernel,by decide +kernel,rfl,d7 (by decide +kernel),by decide +kernel⟩
theorem Vj (rows:List (List Str)) (h:(rows.any fun r=>!r.isEmpty)=true):∃x t,heads rows=x::t:=by
 obtain⟨r,hr,e⟩:=pN.mp h
 cases r with
 | nil=>simp at e
 | cons y r =>
  have:y∈heads rows:=mn.mpr ⟨_,hr,rfl⟩
  cases q:heads rows with
  | nil=>rw[q]at this;simp at this
  | cons a t=>exact⟨a,t,rfl⟩
theorem L7:∀ {ps:List Str}{n:Str},n∈ps -> ∃j:Nat,ps[j]? = some n /\ ∀m:Nat,m < j->ps[m]? ≠ some n
 | [],n,h=>by simp at h
 | x::ps,n,h=>by
  by_cases e:x=n
  ·exact⟨0,by rw[e];rfl,fun m hm=>by omega⟩
  ·have h':n∈ps:=by
    rcases bq.mp h with z | z
    ·exact absurd z.symm e
    ·exact z
   obtain⟨j,h1,h2⟩:=L7 h'
   refine⟨j+1,by simpa using h1,fun m hm=>?_⟩
   cases m with
   | zero=>simpa using e
   | succ m=>simpa using h2 m (by omega)
structure MH (H:Hp) (rows:List (List Str)) (l pa wa:Addr) (m:Nat) (σ:St) (H1:Hp) (nm:Str) (ps:List Str) (wv:List V) (W:List Wi):Prop where
 st:∃v4:Option V,σ = [some (.ref l),some (.str nm),some (.ref pa),some (.ref wa),v4,none]
 mm:m=rows.length - ps.length
 hn:nm∈heads rows
 hp:∀n∈ps,n∈heads rows
 nd:ps.Nodup
 pa:H1 pa=some (.lst (ps.map V.str))
 wa:H1 wa=some (.lst wv)
 ln:wv.length=ps.length
 Qq:∀v∈wv,oF H1 v
 sm:ak H H1
 pw:j4 H1 wv W
 eq:lF rows (rows.length+1 - ps.length) nm ps W=ou rows
theorem Cp {ps hs:List Str} (nd:ps.Nodup) (h:∀n∈ps,n∈hs):ps.length<=hs.length:=by
 by_cases z:ps.length<=hs.length
 ·exact z
 ·obtain⟨y,hy,hn⟩:=yP (found:=hs) nd (by omega)
  exact absurd (h y hy) hn
theorem WO {fW:Addr}{lV:FuncData} (F:aZ K "ring_within" "ring_within" my f fd) (B:eK mg) (FW:aZ K "wish_against" "wish_against" mX fW lV) (bW:Binds K lV ["rest", "name"] []) (mW:mg "wish_against" = some (.ref fW)) :
  aG P w K mg base aL 2 f fd ["rest"] sE:=by
 have GW:aG P w K mg base aL 1 fW lV ["rest", "name"] qg:=ME FW B
 refine F.ok pW (fun vs H Q E h=>?_) (fun cdv A outer s H vs Q E hr h=>?_)
 ·unfold sE at h;obtain⟨l,ws,rows,rfl,_⟩:=h;rfl
 ·unfold sE at h
  obtain⟨l,ws,rows,rfl,hl,hR,hS,hF,hA,q⟩:=h
  have cC:aT 1 _:=hr
  refine⟨_,aC (a9 (i:=1) pW.nd rfl (Or.inl rfl) (cz gH (ff rfl Oj (gG (pv 0)) (fun s H fp=>⟨a8 (i:=0) Oj.nd rfl (Or.inl rfl),jl (Vi K rfl (pv 0) (fun _=>rfl)),cz (vj K rfl) (pv 0) aP (fun _ _=>rfl)⟩)) aP (fun _ _=>rfl)))
   (aC (a9 (i:=2) pW.nd rfl (Or.inl rfl) (cQ ai))
   (aC (a9 (i:=3) pW.nd rfl (Or.inl rfl) (cQ ai))
   (aC (vh jM (cE u0 (pv 1) (pv 2) rfl)
    (aC (fc (jt lu pO pP kc (pv 2) (ae (pv 1) ai)))
    (aC (a9 (i:=4) pW.nd rfl (Or.inl rfl) (aR GW cC rfl mW FW.kp bW .nil aV (ae (pv 0) (ae (pv 1) ai))))
    (aC (fc (jt lu pO pP kc (pv 3) (ae (pv 4) ai)))
    (aM (a9 (i:=1) pW.nd rfl (Or.inl rfl) (cz og (pv 4) aP (fun _ _=>rfl))))))))
   (aC (a9 (i:=5) pW.nd rfl (Or.inl rfl) (yB B6 (pv 3) (vo (jt lu PySem.F.slot_list_index PySem.F.type_list_index Wj (pv 2) (ae (pv 1) ai))) yJ))
   (aM (bo (fb j' rfl B.tuple boot_tuple (ae (Yt (pv 5)) ai)))))))),?_⟩
  refine⟨_,rfl,l,rfl,⟨_,aj.of hl⟩,fun a1 iw=>?_⟩
  refine iV (xs:=ws) (fun i zs τ H1=>∃t0:Option V,zs=(heads (rows.take i)).map V.str/\τ = [t0]/\H1=upd H a1 (.lst zs)) ⟨none,rfl,rfl,rfl⟩ (fun i zs τ H1 ⟨_,_,_,z⟩=>by rw[z];exact⟨ag,aj.of (by rw[ah (ao hl iw)];exact hl)⟩) ?_ ?_
  ·rintro i x zs τ H1 hx ⟨t0,rfl,rfl,rfl⟩
   obtain⟨a,r,rfl,gD,fV⟩:=hR.get hx
   have aS:i < ws.length:=(b9.mp hx).1
   have lg:(upd H a1 (.lst ((heads (rows.take i)).map V.str))) a=some (.tup (r.map V.str)):=by rw[ah (ao fV iw)];exact fV
   have tk:rows.take (i+1)=rows.take i ++ [r]:=by rw[dz,gD];rfl
   refine⟨_,rfl,!(r.map V.str).isEmpty,.inr (.inl ⟨_,aJ.of lg,rfl⟩),?_⟩
   cases r with
   | nil=>exact cw_next aS ⟨_,by rw[tk];simp[heads],rfl,rfl⟩
   | cons y r =>
    refine⟨_,rfl,a,_,0,.str y,rfl,rfl,aJ.of lg,jG,ag,?_,cw_next aS ⟨_,?_,rfl,by rw[jo]⟩⟩
    ·have h1:=rY (rows.take i)
     have h2:(rows.take i).length<=rows.length:=by rw[dq];omega
     have h3:=hS.bb
     rw[aE,aI];omega
    ·rw[tk];simp[heads]
  ·rintro zs τ H1 ⟨t0,rfl,rfl,rfl⟩
   rw[hR.length,d5]
   obtain⟨x0,ht,lW⟩:=Vj rows hA
   rw[lW]
   refine⟨a1,_,0,.str x0,rfl,rfl,aj.of ag,jG,?_⟩
   have S0:=aF (o:= .lst ((x0::ht).map V.str)) iw
   refine⟨a4 _,fun pa gm=>⟨a4 _,fun wa uA=>?_⟩⟩
   have S1:=S0.trans (aF (o:= .lst []) gm)
   have S2:=S1.trans (aF (o:= .lst []) uA)
   have aaN:H pa=none:=S0.free gm
   have aaO:H wa=none:=S1.free uA
   have G8:pa≠wa:=ao ag uA
   refine⟨fun m σ H1=>∃nm ps wv W,MH H rows l pa wa m σ H1 nm ps wv W,⟨_,x0,[],[],[],⟨none,rfl⟩,rfl,by rw[lW];exact ba,(fun n hn=>by simp at hn),rG,by rw[ah G8];exact ag,ag,rfl,(fun v hv=>by simp at hv),S2,.nil,by unfold ou;rw[lW];rfl⟩,?_⟩
   rintro m σ H1 ⟨nm,ps,wv,W,R⟩
   obtain⟨v4,rfl⟩:=R.st
   have alS:ps.length<=10:=by
    have h1:=Cp R.nd R.hp
    have h2:=rY rows
    have h3:=hS.bb
    omega
   refine⟨_,rfl,_,rfl,pa,_,rfl,.inl (aj.of R.pa),rfl,jN _,_,rfl,?_⟩
   rw[aA rfl,ke]
   refine eF (fun hn=>?_) (fun hn=>?_)
   ·have i9:nm ∉ ps:=by simpa using hn
    have nd1:(nm::ps).Nodup:=ix.mpr ⟨i9,R.nd⟩
    have aaP:(nm::ps).length<=rows.length:=cK (Cp nd1 fun n z=>by
     rcases bq.mp z with rfl | z
     ·exact R.hn
     ·exact R.hp n z) (rY rows)
    refine⟨fun aH H'=>∃m',m' < m /\ ∃nm ps wv W,MH H rows l pa wa m' aH H' nm ps wv W,fun _ _ z=>z,?_⟩
    refine⟨_,rfl,.inl ⟨rfl,_,aj.of R.pa⟩,_,rfl,pa,_,_,rfl,rfl,R.pa,by rw[aE,aI];omega,?_⟩
    have S3:ak H (upd H1 pa (.lst (ps.map V.str ++ [.str nm]))):=fun b o e=>by rw[ah (ao e aaN)];exact R.sm b o e
    refine⟨_,rfl,_,rfl,MF (S3 _ _ hl) (hR.same S3) (fun en=>absurd en (ym hF nm R.hn)) (fun j x es p H3 hp S4 h3=>?_)⟩
    obtain⟨_,hj,hx⟩:=A8 es
    have Dl:H3 wa=some (.lst wv):=S4 _ _ (by rw[ah (aO G8)];exact R.wa)
    have aaQ:H3 pa=some (.lst (ps.map V.str ++ [.str nm])):=S4 _ _ ag
    refine⟨_,rfl,.inl ⟨rfl,_,aj.of Dl⟩,_,rfl,wa,_,_,rfl,rfl,Dl,by rw[R.ln,aI];omega,?_⟩
    have S5:ak H (upd H3 wa (.lst (wv ++ [.ref p]))):=fun b o e=>by rw[ah (ao e aaO)];exact S4 _ _ (S3 b o e)
    have aaR:p≠wa:=b7 h3 Dl (by intro z;cases z)
    have G9:(upd H3 wa (.lst (wv ++ [.ref p]))) p=some (.tup [.int j,.str x,.str nm]):=by rw[ah aaR];exact h3
    have Zo:∀v,oF H1 v->oF (upd H3 wa (.lst (wv ++ [.ref p]))) v:=fun v ⟨a,i,y,n,e,ha,r⟩=>⟨a,i,y,n,e,by
     have n1:a≠pa:=b7 ha R.pa (by intro z;cases z)
     have n2:a≠wa:=b7 ha R.wa (by intro z;cases z)
     rw[ah n2]
     exact S4 _ _ (by rw[ah n1];exact ha),r⟩
    refine⟨_,rfl,p,_,1,.str x,rfl,rfl,aJ.of G9,(show ee [V.int j,.str x,.str nm] ((1:Nat):Int)=some (V.str x) from eO rfl),?_⟩
    have alH:ps.length+1<=rows.length:=by simpa using aaP
    have C7:=hS.bb
    refine⟨rows.length - (ps ++ [nm]).length,by rw[R.mm,c9];simp only[j9];omega,x,ps ++ [nm],wv ++ [.ref p],W ++ [(j,x,nm)],⟨_,rfl⟩,rfl,hx,?_,?_,?_,ag,?_,?_,S5,?_,?_⟩
    ·intro n z
     rcases dk.mp z with z | z
     ·exact R.hp n z
     ·have:n=nm:=by simpa using z
      rw[this];exact R.hn
    ·rw[lr]
     exact⟨R.nd,by simp,fun a ha b hb=>by rw[show b=nm by simpa using hb];exact fun h=>i9 (h ▸ ha)⟩
    ·rw[ah G8,aaQ,bV];rfl
    ·rw[c9,c9,R.ln];rfl
    ·intro v z
     rcases dk.mp z with z | z
     ·exact Zo v (R.Qq v z)
     ·have:v = .ref p:=by simpa using z
      rw[this]
      exact⟨p,j,x,nm,rfl,G9,by omega,hS.head hx,hS.head R.hn⟩
    ·refine Lz (Paired.imp' (fun v w' ⟨a,e,ha⟩=>⟨a,e,?_⟩) R.pw) (w:=(j,x,nm)) ⟨p,rfl,G9⟩
     have n1:a≠pa:=b7 ha R.pa (by intro z;cases z)
     have n2:a≠wa:=b7 ha R.wa (by intro z;cases z)
     rw[ah n2]
     exact S4 _ _ (by rw[ah n1];exact ha)
    ·rw[<-R.eq]
     obtain⟨k,hk⟩:∃k,rows.length+1 - ps.length=k+1:=⟨rows.length - ps.length,by omega⟩
     rw[hk,show rows.length+1 - (ps ++ [nm]).length=k by rw[c9,j9];omega]
     exact(XJ i9 es).symm
   ·have i9:nm∈ps:=by simpa using hn
    obtain⟨j,hj,eP⟩:=L7 i9
    refine⟨_,rfl,_,rfl,.inl ⟨rfl,_,aj.of R.pa⟩,_,rfl,pa,ps,nm,j,rfl,rfl,R.pa,hj,eP,_,rfl,wa,wv,rfl,aj.of R.wa,fun p5 w4=>?_⟩
    refine⟨_,rfl,p5,_,rfl,aj.of ag,fun p6 z9=>?_⟩
    refine⟨p6,_,rfl,.inl ⟨aj.of ag,fun p7 Qr=>?_⟩⟩
    have T5:=R.sm.trans (aF (o:= .lst (gu wv (some (j:Int)) none)) w4)
    have T1:ak H1 _:=(aF (o:= .lst (gu wv (some (j:Int)) none)) w4).trans ((aF (o:= .lst (gu wv (some (j:Int)) none).reverse) z9).trans (aF (o:= .tup (gu wv (some (j:Int)) none).reverse) Qr))
    refine q p7 _ _ (R.sm.trans T1) ((R.sm.trans ((aF (o:= .lst (gu wv (some (j:Int)) none)) w4).trans (aF (o:= .lst (gu wv (some (j:Int)) none).reverse) z9))).free Qr) ag ?_ (KS ag (fun v hv=>?_) ?_)
    ·have ej:ps.idxOf nm=j:=Ly hj eP
     obtain⟨k,hk⟩:∃k,rows.length+1 - ps.length=k+1:=⟨rows.length - ps.length,by have:=Cp R.nd R.hp;have:=rY rows;omega⟩
     rw[<-R.eq,hk,WM i9,ej]
     rw[show gu wv (some (j:Int)) none=wv.drop j from WN _ _]at T1 ⊢
     exact YC (XM (Paired.imp' (fun v w' ⟨a,e,ha⟩=>⟨a,e,T1 _ _ ha⟩) R.pw))
    ·have hv1:v∈gu wv (some (j:Int)) none:=T'.mp hv
     exact(R.Qq v (Kd (Ud hv1))).same T1
    ·have h1:=Ku wv (some (j:Int)) none
     rw[JX]
     have:=R.ln
     omega
theorem WQ {l:Addr}{ws:List V}{rows:List (List Str)}{H:Hp}{Q:VK}{E:XK} (hl:H l=some (.lst ws)) (hR:cY H ws rows) (hS:Small rows) (hF:d6 rows=none) (hA:(rows.any fun r=>!r.isEmpty)=true)
  (q:∀p vs H',ak H H'->H p=none->H' p=some (.tup vs)->j4 H' vs (ou rows)->lE H' (.ref p)->Q (.ref p) H'):sE [.ref l] H Q E:=by
 unfold sE;exact⟨l,ws,rows,rfl,hl,hR,hS,hF,hA,q⟩
end
end aX
namespace aX
open PySem L2 PySem.W
theorem KU {rest:List (List Str)} (h:total rest=0):(rest.any fun r=>!r.isEmpty)=false:=by
 cases e:rest.any fun r=>!r.isEmpty with
 | false=>rfl
 | true=>have:=BB e;omega
theorem rZ {rest:List (List Str)}{n:Str} (h:d6 rest=some n):∃r∈rest,n∈r:=by
 obtain⟨r,hr,e⟩:=yl h
 exact⟨r,hr,Uc e⟩
theorem KW:∀ (k:Nat) (r:List (List Str)),total r<=k -> ∀j,total r<=j->bw k r=bw j r
 | 0,r,h,j,_=>by
  have z:=KU (show total r=0 by omega)
  cases j with
  | zero=>rfl
  | succ j=>unfold bw;rw[aq (by rw[z];exact cU)]
 | k+1,r,h,0,hj=>by
  have z:=KU (show total r=0 by omega)
  unfold bw;rw[aq (by rw[z];exact cU)]
 | k+1,r,h,j+1,hj=>by
  unfold bw
  split
  ·cases e:d6 r with
   | none=>rfl
   | some n =>
    have:=rM (rZ e)
    show Option.map _ _=Option.map _ _
    rw[KW k (without n r) (by omega) j (by omega)]
  ·rfl
theorem Bj {r:List (List Str)} (h:(r.any fun r=>!r.isEmpty)=false):bw (total r) r=some []:=by
 cases total r with
 | zero=>rfl
 | succ k=>unfold bw;rw[aq (by rw[h];exact cU)]
theorem Bk {r:List (List Str)} (h:(r.any fun r=>!r.isEmpty)=true) (e:d6 r=none):bw (total r) r=none:=by
 have:=BB h
 cases q:total r with
 | zero=>omega
 | succ k=>unfold bw;rw[aA h,e]
theorem Bm {r:List (List Str)}{n:Str} (h:(r.any fun r=>!r.isEmpty)=true) (e:d6 r=some n):bw (total r) r=(bw (total (without n r)) (without n r)).map (n :: ·):=by
 have:=rM (rZ e)
 cases q:total r with
 | zero=>omega
 | succ k =>
  show(if (r.any fun r=>!r.isEmpty)=true then _ else _)=_
  rw[aA h,e]
  show Option.map _ _=_
  rw[KW k (without n r) (by omega) _ (aN _)]
theorem Ko {env:Env}:∀ {names:List (Str×NameKind)}{x:Str},names.lookup x=some .cell ->
  (names.map fun(n,k)=>if (k==NameKind.free && env.scope.kind == .function && env.kindOf n==some .cell) then (n,NameKind.cell) else (n,k)).lookup x=some .cell
 | [],_,h=>by simp at h
 | (n,k0)::r,x,h=>by
  have ih:=@Ko env r x
  show List.lookup x ((if (k0==NameKind.free && env.scope.kind == .function && env.kindOf n==some .cell)=true then (n,NameKind.cell) else (n,k0))::_)=_
  rw[iy]at h
  cases hx:x==n with
  | true =>
   rw[hx]at h
   cases h
   rw[aq (by simp),iy,hx]
  | false =>
   rw[hx]at h
   by_cases hc:(k0==NameKind.free && env.scope.kind == .function && env.kindOf n==some .cell)=true
   ·rw[aA hc,iy,hx];exact ih h
   ·rw[aq hc,iy,hx];exact ih h
theorem nest {N N':List Str}{b5:List (Option Nat)}{uB sc:Scope}{env:Env} (kind:sc.kind = .function) (keys:(sc.names.map (·.1)).Nodup) (nd:N'.Nodup) (len:b5.length=N'.length) (fv:N6 N N' b5 sc=true)
  (free:∀p∈sc.names,p.2 = .free->uB.names.lookup p.1=some .cell\/uB.names.lookup p.1=some .free):cf N (relabel uB env) N' b5 sc:=
 ⟨kind,keys,nd,len,d7 fv,fun p hp e=>by
  rcases free p hp e with z | z
  ·exact .inl (Ko z)
  ·exact A2 z⟩
theorem Kq {X:Cx} (K:Frag) (h:X.K=K):df X (.type "tuple") (fun xs H Q=>∃p ys,xs = [.ref p]/\((aj K H p ys /\ ∀l,H l=none->Q (.ref l) (upd H l (.tup ys)))\/(aJ K H p ys/\Q (.ref p) H))):=by subst h;exact j'
theorem boot_any:bootBuiltins "any" = some (.builtin "any"):=by decide +kernel
def yR (K:Frag) (C:Addr):Bool:=
 findIn K (.ref C) "__getattribute__" == some (some (.builtin "BaseException.__getattribute__")) && (findIn K (.ref C) "__getattr__" == some none && (findIn K (.ref C) "__setattr__" == some (some (.builtin "object.__setattr__")) && (hasDictIn K C &&
 (((clsIn K C).any fun cd=>sQ cd.mro) && (mroIn K C (.type "BaseException")==some true && (mroIn K C (.type "ValueError")==some true && (mroIn K C (.type "object")==some true && (findIn K (.ref C) "__class__" == some (some (.builtin "object.__class__")) &&
 (specialIn K (.builtin "object.__class__") "__get__" == some (some (.builtin "getset_descriptor.__get__")) && takesIn K (.builtin "object.__class__")==some true)))))))))
theorem MI {K:Frag}{C:Addr} (h:yR K C=true):dh K C:=by
 unfold yR at h
 simp only[x5,cS]at h
 obtain⟨a,b,c,d,e,f,g,i,j,k,l⟩:=h
 exact⟨a,b,c,d,e,f,g,i,j,k,l⟩
def Dm (a:Addr) (H H':Hp):Prop:= ∀b o,H b=some o->b≠a->H' b=some o
@[irreducible] def lG (K:Frag) (f g:Str):Sp:=fun vs H Q _=>∃ (a C:Addr) (k r:V) (i:Option Value),vs = [.ref a,k,r]/\H a=some (bJ C none a)/\dh K C/\dI K C i=true/\lE H k/\lE H r/\findIn K (.ref C) f=some none/\findIn K (.ref C) g=some none /\
 ∀d H',H d=none->d≠a->H' a=some (bJ C (some d) a)->H' d=some (dv d [(f,k),(g,r)])->Dm a H H'->Q .aD H'
theorem L8 {a d C:Addr}{fs:List (Str×V)}{H:Hp} (hd:H d=none):Dm a H (upd (upd H d (dv d fs)) a (bJ C (some d) a)):=fun b o e n=>by
 rw[ah n,ah (ao e hd)];exact e
section
variable {P : Program} {w : World} {K : Frag} {mg : Str -> Option Value} {base : Heap} {B : Addr} {f : Addr} {fd : FuncData}
theorem M7:bZ ["self", "kind", "ring"] ["self", "kind", "ring"] (ay ko):=⟨rfl,rfl,rfl,by decide +kernel,rfl,by decide +kernel,by decide +kernel⟩
theorem XN (F:aZ K "__init__" "Ring.__init__" ko f fd) (b:vB K B) (mB:mg "LineError" = some (.ref B)):aG P w K mg base aL 1 f fd ["self", "kind", "ring"] (lG K "kind" "ring"):=by
 refine F.ok M7 (fun vs H Q E h=>?_) (fun cdv A outer s H vs Q E hr h=>?_)
 ·unfold lG at h;obtain⟨a,C,k,r,i,rfl,_⟩:=h;rfl
 ·unfold lG at h
  obtain⟨a,C,k,r,i,rfl,ha,c,qi,fk,fr,nk,nr,q⟩:=h
  have hu:=hr.units
  have hg:=hr.gd
  refine⟨_,aC (fc (Kw b rfl mB (ae (pv 0) (ae (B7 (lz jq (lz (vA hu hg (pv 1)) (lz jq (lz (vA hu hg (pv 2)) Cj))))) ai))))
   (aC (Mq (pv 0) (pv 1)) (aM (LN (pv 0) (pv 2)))),?_⟩
  refine⟨_,rfl,⟨_,rfl,by decide +kernel⟩,_,rfl,fk,fun y1 wW=>⟨⟨_,rfl,wW⟩,⟨_,rfl,by decide +kernel⟩,_,rfl,fr,fun y2 wX=>⟨⟨_,rfl,wX⟩,fun y hy=>?_⟩⟩⟩
  refine⟨a,C,none,_,i,rfl,ha,c,qi,?_⟩
  refine⟨_,rfl,_,rfl,a,C,rfl,ha,c,nk,fun d hd lX=>?_⟩
  refine⟨_,rfl,_,rfl,a,C,d,_,rfl,ag,(by rw[ah lX];exact ag),c,nr,(by show 1 < 100;decide),?_⟩
  refine q d _ hd lX ?_ ag fun b o e n=>?_
  ·rw[ah (aO lX)];exact ag
  ·rw[ah (ao e hd)];exact L8 hd b o e n
end
end aX
namespace aX
open PySem L2 PySem.W
abbrev MJ:List Str:= ["rows", "order", "rest", "name"]
theorem vm:bZ MJ ["rows"] (ay n5):=⟨rfl,rfl,rfl,by decide +kernel,rfl,by decide +kernel,by decide +kernel⟩
abbrev Ol:Expr:=eW (cw (vf (cw (aQ n5) 2)) 3)
abbrev uB:Scope:=cR Ol
abbrev scI:Scope:=cR (ig (Ny Ol))
theorem Qs:cf MJ (ay n5) ["row", "name"] [none,some 3] uB:=⟨rfl,by decide +kernel,by decide +kernel,rfl,d7 (by decide +kernel),by decide +kernel⟩
theorem csI {env:Env}:cf ["row", "name"] (relabel uB env) ["other", "name"] [none,some 1] scI:=nest rfl (by decide +kernel) (by decide +kernel) rfl (by decide +kernel) (by decide +kernel)
theorem ndI:(["other", "name"]:List Str).Nodup:=by decide +kernel
structure CL (K:Frag) (mg:Str->Option Value) (B C fI:Addr) (oX:FuncData):Prop where
 mC:mg "Ring" = some (.ref C)
 q:dI K C (some (.ref fI))=true
 fn:isFn K (.ref fI)=true
 kp:keepIn K (.ref C)=true
 F:aZ K "__init__" "Ring.__init__" ko fI oX
 b:vB K B
 mB:mg "LineError" = some (.ref B)
 bi:Binds K oX ["self", "kind", "ring"] []
 x:dh K C
 nk:findIn K (.ref C) "kind" = some none
 nr:findIn K (.ref C) "ring" = some none
theorem WR {H H':Hp}{x:V} (h:lE H x) (s:ak H H'):lE H' x:=by
 rcases h with h | h | ⟨a,d,e,r,q⟩
 ·exact .inl h
 ·exact .inr (.inl h)
 ·exact .inr (.inr ⟨a,d,e,r.same s,q⟩)
theorem two_sp {K:Frag}{f g:Str}{a C:Addr}{k r:V}{i:Option Value}{H:Hp}{Q:VK}{E:XK} (ha:H a=some (bJ C none a)) (x:dh K C) (q:dI K C i=true) (fk:lE H k) (fr:lE H r) (nk:findIn K (.ref C) f=some none) (nr:findIn K (.ref C) g=some none)
  (h:∀d H',H d=none->d≠a->H' a=some (bJ C (some d) a)->H' d=some (dv d [(f,k),(g,r)])->Dm a H H'->Q .aD H'):lG K f g [.ref a,k,r] H Q E:=by
 unfold lG;exact⟨a,C,k,r,i,rfl,ha,x,q,fk,fr,nk,nr,h⟩
theorem LA {H H':Hp}{vs:List V}{rows:List (List Str)} (h:cY H vs rows) (s:∀b xs,H b=some (.tup xs)->H' b=some (.tup xs)):cY H' vs rows:=Paired.imp' (fun _ _ ⟨a,e,q⟩=>⟨a,e,s _ _ q⟩) h
theorem Kl {rest:List (List Str)}{n:Str} (S:Small rest):Small (without n rest):=by
 refine⟨by unfold L2.without;rw[aE];exact S.bb,fun r hr=>?_,fun r hr y hy=>?_⟩
 ·obtain⟨q,hq,rfl⟩:=bf.mp hr
  exact cK (gP _ _) (S.short q hq)
 ·obtain⟨q,hq,rfl⟩:=bf.mp hr
  exact S.nm q hq y (hV.mp hy).1
structure Om (H:Hp) (rows:List (List Str)) (t oa:Addr) (m:Nat) (σ:St) (H1:Hp) (rest:List (List Str)) (ws:List V) (acc:List Str) (rl:Addr):Prop where
 st:∃v3:Option V,σ = [some (.ref t),some (.ref oa),some (.ref rl),v3]
 mm:m=total rest
 nD:H1 oa=some (.lst (acc.map V.str))
 jH:H1 rl=some (.lst ws)
 rr:cY H1 ws rest
 sm:Small rest
 ne:rl≠oa
 same:ak H H1
 lim:acc.length+total rest<=1000
 eq:bw (total rows) rows=(bw (total rest) rest).map (acc ++ ·)
 kJ:qh 1000 rows=qh (1000 - acc.length) rest
 cut:Cut rows rest
theorem u9:∀ {rows:List (List Str)},(∀r∈rows,r.length<=20)->total rows<=20 * rows.length
 | [],_=>a4 _
 | r::rows,h=>by
  have h1:=u9 fun q hq=>h q (bU _ hq)
  have h2:=h r ba
  have e:total (r::rows)=r.length+total rows:=by simp[total]
  rw[e,dZ];omega
theorem WS {K:Frag}{H:Hp}{ws:List V}{rows:List (List Str)} (h:cY H ws rows):Paired (fun y r=>∃a,y=V.ref a/\aJ K H a r) ws (rows.map fun r=>r.map V.str):=by
 induction h with
 | nil=>exact .nil
 | cons p _ ih=>obtain⟨a,e,q⟩:=p;exact .cons ⟨a,e,aJ.of q⟩ ih
theorem any_map (rows:List (List Str)):((rows.map fun r=>r.map V.str).any fun r=>!r.isEmpty)=rows.any fun r=>!r.isEmpty:=by
 rw[AM];congr 1;funext r;cases r <;> rfl
section
variable {P : Program} {w : World} {K : Frag} {mg : Str -> Option Value} {base : Heap} {f : Addr} {fd : FuncData}
@[irreducible] def sg (C:Addr):Sp:=fun vs H Q E=>∃ (t:Addr) (ws:List V) (rows:List (List Str)),vs = [.ref t]/\H t=some (.tup ws)/\cY H ws rows/\Small rows /\
 (bw (total rows) rows=none -> ∀a d p vs H',H a=none->H d=none->H p=none->qk (Co rows) 10 (tf rows)->ak H H'->H' a=some (dJ (some .none) C (some d) a)->H' d=some (dv d [("kind", .aD),("ring", .ref p)])->H' p=some (.tup vs)->j4 H' vs (tf rows)->E (.ref C) (some a) H')/\(∀o,bw (total rows) rows=some o -> ∀p H',H p=none->ak H H'->H' p=some (.tup (o.map V.str))->Q (.ref p) H')
theorem VV {B C fI fL fW fR:Addr}{oX nE lV G':FuncData} (F:aZ K "merged" "merged" n5 f fd) (Bl:eK mg) (T:CL K mg B C fI oX)
  (FW:aZ K "wish_against" "wish_against" mX fW lV) (bW:Binds K lV ["rest", "name"] []) (mW:mg "wish_against" = some (.ref fW))
  (FL:aZ K "least_free" "least_free" qf fL nE) (bL:Binds K nE ["rest"] []) (mL:mg "least_free" = some (.ref fL))
  (FR:aZ K "ring_within" "ring_within" my fR G') (bR:Binds K G' ["rest"] []) (mR:mg "ring_within" = some (.ref fR)) :
  aG P w K mg base (c8 P w) 3 f fd ["rows"] (sg C):=by
 have GL:aG P w K mg base aL 2 fL nE ["rest"] sD:=WK FL Bl FW bW mW
 have GR:aG P w K mg base aL 2 fR G' ["rest"] sE:=WO FR Bl FW bW mW
 have GI:aG P w K mg base aL 1 fI oX ["self", "kind", "ring"] (lG K "kind" "ring"):=XN T.F T.b T.mB
 refine F.ur vm (fun vs H Q E h=>?_) (fun cdv A outer s H vs Q E hr h=>?_)
 ·unfold sg at h;obtain⟨t,ws,rows,rfl,_⟩:=h;rfl
 ·unfold sg at h
  obtain⟨t,ws,rows,rfl,ht,hR,hS,qn,qs⟩:=h
  have jI:aT 2 _:=hr
  refine⟨_,aC (a9 (i:=1) vm.nd rfl (Or.inl rfl) (cQ ai))
   (aC (a9 (i:=2) vm.nd rfl (Or.inl rfl) (fb u6 rfl Bl.list boot_list (ae (pv 0) ai)))
   (aC (vh Ke (pV (bx (VB rfl) rfl Bl.any boot_any (ae (pv 2) ai)) (fun _=>rfl))
    (aC (a9 (i:=3) vm.nd rfl (Or.inr rfl) (aR GL jI rfl mL FL.kp bL .nil aV (ae (pv 2) ai)))
    (aC (cN (cE vz (pv 3) iE (cP _)) (aM (Ll (Xj T.q T.fn T.kp GI jI T.bi aV rfl T.mC (ae iE (ae (aR GR jI rfl mR FR.kp bR .nil aV (ae (pv 2) ai)) ai))))) cM)
    (aC (fc (jt lu pO pP kc (pv 1) (ae (pv 3) ai)))
    (aM (rS (i:=2) rfl Qs vm.nd rfl rfl (gG (pv 2)) (fun s H fp=>⟨a8 (i:=0) Qs.nd rfl (Or.inl rfl),iC,
     fb (Kq K rfl) rfl Bl.tuple boot_tuple (ae (ff rfl csI (LO K rfl (pv 0)) (fun s H fp=>⟨a8 (i:=0) ndI rfl (Or.inl rfl),jl (cE vN (pv 0) (pv 1) rfl),pv 0⟩)) ai)⟩)))))))
   (aM (bo (fb j' rfl Bl.tuple boot_tuple (ae (pv 1) ai)))))),?_⟩
  refine⟨a4 _,fun oa nD=>⟨_,rfl,t,ws,rfl,.inr (aJ.of (by rw[ah (ao ht nD)];exact ht)),fun rl jH=>?_⟩⟩
  have aaS:(upd (upd H oa (.lst [])) rl (.lst ws)) oa=some (.lst []):=by rw[ah (ao ag jH)];exact ag
  have S1:ak H (upd (upd H oa (.lst [])) rl (.lst ws)):=(aF nD).trans (aF jH)
  refine⟨fun m σ H1=>∃rest cO acc rl,Om H rows t oa m σ H1 rest cO acc rl,⟨_,rows,ws,[],rl,⟨none,rfl⟩,rfl,aaS,ag,hR.same S1,hS,aO (ao ag jH),S1,by have:=u9 hS.short;have:=hS.bb;simp only[yb];omega,by cases bw (total rows) rows <;> rfl,rfl,.refl _⟩,?_⟩
  rintro m σ H1 ⟨rest,cO,acc,rl,R⟩
  obtain⟨v3,rfl⟩:=R.st
  refine⟨_,rfl,rl,cO,_,rfl,aj.of R.jH,WS R.rr,_,rfl,?_⟩
  rw[any_map]
  refine eF (fun hA=>?_) (fun hA=>?_)
  ·refine⟨fun aH H'=>∃m',m' < m /\ ∃rest cO acc rl,Om H rows t oa m' aH H' rest cO acc rl,fun _ _ z=>z,?_⟩
   refine⟨_,rfl,WL R.jH R.rr fun H2 S2=>?_⟩
   have Dn:=BB hA
   cases e:d6 rest with
   | none =>
    refine⟨_,rfl,rfl,_,rfl,?_⟩
    refine⟨_,rfl,WQ (S2 _ _ R.jH) (R.rr.same S2) R.sm e hA fun p vs H3 S3 k7 Qt hws hf=>?_⟩
    have S4:ak H H3:=R.same.trans (S2.trans S3)
    refine⟨by show 2<=100;decide,fun a ha=>?_⟩
    have Qu:H a=none:=S4.free ha
    have hpH:H p=none:=(R.same.trans S2).free k7
    have npa:p≠a:=ao Qt ha
    have eR:tf rows=ou rest:=by unfold tf;rw[R.kJ,Vh e]
    refine two_sp ag T.x T.q (.inr (.inl rfl)) (WR hf (aF ha)) T.nk T.nr fun d H4 hd lX h1 h2 kp=>⟨rfl,a,C,some d,_,rfl,h1,fun d' ed=>by cases ed;exact⟨_,h2⟩,T.x,T.q,Qu,?_⟩
    have oY:H3 d=none:=by rw[ah lX]at hd;exact hd
    have hU:∀b o,H3 b=some o->upd H4 a (dJ (some .none) C (some d) a) b=some o:=fun b o hb=>by
     have nb:b≠a:=ao hb ha
     rw[ah nb];exact kp b o (by rw[ah nb];exact hb) nb
    refine qn (by rw[R.eq,Bk hA e];rfl) a d p vs _ Qu (S4.free oY) hpH ?_ (fun b o hb=>hU b o (S4 b o hb)) ag (by rw[ah lX];exact h2) (hU _ _ Qt) ?_
    ·rw[eR]
     have q:=(XI e hA).imp fun w=>R.cut.jV
     exact⟨q.len,cK q.bb R.sm.bb,q.at_,q.turn,q.nd⟩
    ·rw[eR];exact Paired.imp' (fun v w ⟨b,eb,hb⟩=>⟨b,eb,hU _ _ hb⟩) hws
   | some n =>
    refine⟨_,rfl,rfl,_,rfl,?_⟩
    have Dp:H2 oa=some (.lst (acc.map V.str)):=S2 _ _ R.nD
    refine⟨_,rfl,.inl ⟨rfl,_,aj.of Dp⟩,_,rfl,oa,_,_,rfl,rfl,Dp,by have:=R.lim;rw[aE,aI];omega,?_⟩
    generalize Aa:upd H2 oa (.lst (acc.map V.str ++ [Dk (some n)]))=H3
    have S3:ak H H3:=fun b o eb=>by rw[<-Aa,ah (ao eb nD)];exact S2 _ _ (R.same b o eb)
    have nro:rl≠oa:=R.ne
    have Oo:H3 rl=some (.lst cO):=by rw[<-Aa,ah nro];exact S2 _ _ R.jH
    have Qv:cY H3 cO rest:=LA R.rr fun b xs hb=>by rw[<-Aa,ah (b7 (S2 _ _ hb) Dp (by intro z;cases z))];exact S2 _ _ hb
    have Oq:H3 oa=some (.lst ((acc ++ [n]).map V.str)):=by rw[<-Aa,ag,bV];rfl
    refine⟨_,rfl,rl,rfl,⟨_,aj.of Oo⟩,fun a1 iw=>?_⟩
    have n1o:a1≠oa:=fun z=>by rw[z,Oq]at iw;cases iw
    refine iV (xs:=cO) (fun i ys τ H4=>∃t0:Option V,τ = [t0,some (.str n)]/\H4 a1=some (.lst ys)/\ak H3 H4/\cY H4 ys (L2.without n (rest.take i))) ⟨none,rfl,ag,aF iw,.nil⟩ (fun i ys τ H4 ⟨_,_,h1,h2,_⟩=>⟨h1,aj.of (h2 _ _ Oo)⟩) ?_ ?_
    ·rintro i x ys τ H4 hx ⟨t0,rfl,uC,S4,xv⟩
     obtain⟨a,r,rfl,gD,fV⟩:=Qv.get hx
     have aS:i < cO.length:=(b9.mp hx).1
     have tk:rest.take (i+1)=rest.take i ++ [r]:=by rw[dz,gD];rfl
     refine⟨_,rfl,a,rfl,⟨_,aJ.of (S4 _ _ fV)⟩,fun b1 gB=>?_⟩
     have Qw:(upd H4 b1 (.lst [])) a=some (.tup (r.map V.str)):=by rw[ah (ao (S4 _ _ fV) gB)];exact S4 _ _ fV
     have Ha:a≠b1:=ao (S4 _ _ fV) gB
     refine mq (xs:=r.map V.str) (fun j zs gA H5=>∃t1:Option V,gA = [t1,some (.str n)]/\zs=((r.take j).filter fun y=>!decide (y=n)).map V.str/\H5=upd H4 b1 (.lst zs)) ⟨none,rfl,rfl,rfl⟩ (fun j zs gA H5 ⟨_,_,_,z⟩=>by rw[z];exact⟨ag,aJ.of (by rw[ah Ha];exact S4 _ _ fV)⟩) ?_ ?_
     ·rintro j x zs gA H5 eI ⟨t1,rfl,rfl,rfl⟩
      have b6:j < (r.map V.str).length:=(b9.mp eI).1
      have gn:j < r.length:=by simpa using b6
      obtain rfl:V.str r[j]=x:=by simpa [gn] using eI
      have jJ:r.take (j+1)=r.take j ++ [r[j]]:=by rw[dz,br gn];rfl
      refine⟨_,rfl,_,rfl,rfl,_,rfl,?_⟩
      refine eF (fun bc=>?_) (fun bc=>?_)
      ·have i5:r[j]≠n:=fun z=>by rw[z]at bc;simp at bc
       refine⟨_,rfl,ag,?_,cw_next b6 ⟨_,rfl,?_,by rw[jo]⟩⟩
       ·have h1:=gP (fun y=>!decide (y=n)) (r.take j)
        have h2:(r.take j).length<=r.length:=by rw[dq];omega
        have h3:=R.sm.short r (j8 gD)
        rw[aE,aI];omega
       ·rw[jJ,ji,bV,pQ (by simpa using i5)];rfl
      ·have hy:r[j]=n:=by
        by_cases z:r[j]=n
        ·exact z
        ·exact absurd (by simp[z]) bc
       refine cw_next b6 ⟨_,rfl,?_,rfl⟩
       rw[jJ];simp[hy]
     ·rintro zs gA H5 ⟨t1,rfl,rfl,rfl⟩
      rw[aE,d5]
      refine⟨b1,_,rfl,.inl ⟨aj.of ag,fun l hl=>?_⟩⟩
      have n1b:a1≠b1:=ao uC gB
      have Sb:ak H4 (upd (upd H4 b1 (.lst ((r.filter fun y=>!decide (y=n)).map V.str))) l (.tup ((r.filter fun y=>!decide (y=n)).map V.str))):=(aF gB).trans (aF hl)
      have n1l:a1≠l:=ao (by rw[ah n1b];exact uC) hl
      refine⟨Sb _ _ uC,?_,cw_next aS ⟨_,rfl,ag,fun b o hb=>?_,?_⟩⟩
      ·have h1:=xv.length
       have h2:(L2.without n (rest.take i)).length<=rest.length:=by unfold L2.without;rw[aE,dq];omega
       have h3:=R.sm.bb
       rw[aI];omega
      ·rw[ah (ao hb iw)];exact Sb _ _ (S4 b o hb)
      ·have e1:L2.without n (rest.take (i+1))=L2.without n (rest.take i) ++ [r.filter fun y=>!decide (y=n)]:=by rw[tk];unfold L2.without;rw[bV];rfl
       rw[e1]
       refine cY.append (LA xv fun b xs hb=>?_) ?_
       ·rw[ah (b7 hb uC (by intro z;cases z))];exact Sb _ _ hb
       ·rw[ah (aO n1l)];exact ag
    ·rintro ys τ H4 ⟨t0,rfl,uC,S4,xv⟩
     rw[Qv.length,d5]at xv
     have lt:=rM (rZ e)
     refine⟨_,by rw[R.mm];exact lt,L2.without n rest,ys,acc ++ [n],a1,⟨_,rfl⟩,rfl,S4 _ _ Oq,uC,xv,Kl R.sm,n1o,S3.trans S4,?_,?_,?_,R.cut.without n⟩
     ·have:=R.lim;rw[c9,j9];omega
     ·rw[R.eq,Bm hA e,Option.map_map]
      congr 1
      funext z
      simp
     ·have N1:=R.lim
      rw[R.kJ,c9,j9]
      obtain⟨k,hk⟩:∃k,1000 - acc.length=k+1:=⟨1000 - acc.length - 1,by omega⟩
      rw[hk,Vg e,show 1000 - (acc.length+1)=k by omega]
  ·refine⟨_,rfl,oa,_,rfl,.inl ⟨aj.of R.nD,fun p hp=>?_⟩⟩
   refine qs acc ?_ p _ (R.same.free hp) (R.same.trans (aF hp)) ag
   rw[R.eq,Bj (by simpa using hA)]
   show some (acc ++ [])=some acc
   rw[eV]
end
end aX
namespace aX
open PySem L2
theorem boot_max:bootBuiltins "max" = some (.builtin "max"):=by decide +kernel
theorem boot_abs:bootBuiltins "abs" = some (.builtin "abs"):=by decide +kernel
section
variable {P : Program} {w : World} {K : PySem.W.Frag} {mg : Str -> Option Value} {base : Heap}
@[irreducible] def tm (K:PySem.W.Frag):Sp:=fun vs H Q _=>∃ (a:Addr) (ns:List Int) (k:Int),vs = [.ref a,.int k]/\aj K H a (ns.map V.int)/\0<=k/\k<=100/\ns.length<=63 /\
 ∀ (p:Addr) (x y:Int),H p=none->0<=x->0<=y->y < 4294967296->Q (.ref p) (upd H p (.lst [.int x,.int y]))
theorem CM:bZ ["_law_script", "_law_k", "_law_cell"] ["_law_script", "_law_k"] (ay tJ):=⟨rfl,rfl,rfl,by decide +kernel,rfl,by decide +kernel,by decide +kernel⟩
theorem XO {ns:List Int}{i:Nat} (h:i < ns.length):∃z,(ns.map V.int)[i]? = some (V.int z):=⟨ns[i],by rw[f6,br h];rfl⟩
theorem YD {f:Addr}{fd:FuncData} (F:aZ K "_law_pot" "_law_pot" tJ f fd) (B:eK mg):aG P w K mg base aL 1 f fd ["_law_script", "_law_k"] (tm K):=by
 refine F.ok CM (fun vs H Q E h=>?_) (fun cdv A outer s H vs Q E hr h=>?_)
 ·unfold tm at h;obtain⟨a,ns,k,rfl,_⟩:=h;rfl
 ·unfold tm at h
  obtain⟨a,ns,k,rfl,hS,k0,k1,hl,q⟩:=h
  refine⟨_,aC (a9 (i:=2) CM.nd rfl (Or.inl rfl) aP)
   (aC (cN (cE Ni (pv 1) (bx iU (by rfl) B.len hW (ae (pv 0) ai)) (cP _))
     (aM (a9 (i:=2) CM.nd rfl (Or.inl rfl) (cz gH (pv 0) (pv 1) (fun _ _=>rfl)))) cM)
   (aM (bo (cQ (ae (bx (K6 rfl) (by rfl) B.max boot_max (ae aP (ae (cH MW (bx LJ (by rfl) B.abs boot_abs (ae (pv 2) ai)) (cH Yf aP aP)) ai)))
    (ae (cH p9 (cH p9 (cH qa (bx LJ (by rfl) B.abs boot_abs (ae (pv 2) ai)) aP) (cH Cg aP (pv 1))) aP) ai)))))),?_⟩
  refine⟨_,rfl,_,rfl,a,_,rfl,.inl hS,_,_,rfl,rfl,_,rfl,?_⟩
  have alU:∀c:Int,0<=(if c < 0 then -c else c):=fun c=>by split <;> omega
  have fin:∀c:Int,∀p,H p=none->Q (.ref p) (upd H p (.lst [.int (if (if c < 0 then -c else c) - 10 ^ (18:Int).toNat > 0 then (if c < 0 then -c else c) - 10 ^ (18:Int).toNat else 0),.int ((if c < 0 then -c else c) % 2147483587+101 * k+3)])):=fun c p hp=>by
   have h1:=AY (if c < 0 then -c else c) (show(2147483587:Int)≠0 by decide)
   have h2:=AZ (if c < 0 then -c else c) (show(0:Int) < 2147483587 by decide)
   refine q p _ _ hp ?_ (by omega) (by omega)
   generalize (if c < 0 then -c else c) - 10 ^ (18:Int).toNat=d
   split <;> omega
  have tail:∀c:Int,∃ (x:V),([some (.ref a),some (.int k),some (.int c)]:St)[2]? = some (some x):=fun c=>⟨_,rfl⟩
  refine eF (fun hk=>?_) (fun hk=>?_)
  ·have wR:k < ((ns.map V.int).length:Int):=uZ hk
   rw[aE]at wR
   obtain⟨z,hz⟩:=XO (ns:=ns) (i:=k.toNat) (by omega)
   refine⟨_,rfl,_,rfl,a,_,_,_,rfl,rfl,hS,(by rw[show k=((k.toNat:Nat):Int) by omega];exact eO hz),?_⟩
   refine⟨_,rfl,z,rfl,_,_,rfl,rfl,⟨by decide,by decide,by decide⟩,_,_,rfl,rfl,_,_,rfl,?_⟩
   refine⟨_,rfl,z,rfl,_,_,rfl,rfl,(by show(0:Int) < 2147483587;decide),_,rfl,_,_,rfl,rfl,.inl ⟨by decide,by decide⟩,_,_,rfl,rfl,_,_,rfl,rfl,(by show 2<=sizeLine;rw[aI];decide),fun p hp=>fin z p hp⟩
  ·refine⟨_,rfl,0,rfl,_,_,rfl,rfl,⟨by decide,by decide,by decide⟩,_,_,rfl,rfl,_,_,rfl,?_⟩
   refine⟨_,rfl,0,rfl,_,_,rfl,rfl,(by show(0:Int) < 2147483587;decide),_,rfl,_,_,rfl,rfl,.inl ⟨by decide,by decide⟩,_,_,rfl,rfl,_,_,rfl,rfl,(by show 2<=sizeLine;rw[aI];decide),fun p hp=>fin 0 p hp⟩
@[irreducible] def lA:Sp:=fun vs H Q _=>∃ (p:Addr) (m x y:Int),vs = [.ref p,.int m]/\H p=some (.lst [.int x,.int y])/\0<=x/\0<=y/\y < 4294967296/\0 < m/\m<=1000000 /\
 ∀ (d x' y':Int),0<=d->d < m->0<=x'->0<=y'->y' < 4294967296->Q (.int d) (upd H p (.lst [.int x',.int y']))
theorem MK:bZ ["_law_pot_here", "_law_many", "_law_digit_here"] ["_law_pot_here", "_law_many"] (ay oj):=⟨rfl,rfl,rfl,by decide +kernel,rfl,by decide +kernel,by decide +kernel⟩
theorem BU {f:Addr}{fd:FuncData} (F:aZ K "_law_digit" "_law_digit" oj f fd):aG P w K mg base aL 1 f fd ["_law_pot_here", "_law_many"] lA:=by
 refine F.ok MK (fun vs H Q E h=>?_) (fun cdv A outer s H vs Q E hr h=>?_)
 ·unfold lA at h;obtain⟨p,m,x,y,rfl,_⟩:=h;rfl
 ·unfold lA at h
  obtain⟨p,m,x,y,rfl,hp,x0,y0,y1,m0,m1,q⟩:=h
  refine⟨_,aC (cN (cE Nk (cz gH (pv 0) aP (fun _ _=>rfl)) aP (cP _))
    (aC (a9 (i:=2) MK.nd rfl (Or.inl rfl) (cH qa (cz gH (pv 0) aP (fun _ _=>rfl)) (pv 1)))
    (aC (vy (cH Mi (cz gH (pv 0) aP (fun _ _=>rfl)) (pv 1)) (MU (pv 0) aP set_list))
    (aM (bo (pv 2))))) cM)
   (aC (vy (cH qa (cH p9 (cH Cg (cz gH (pv 0) aP (fun _ _=>rfl)) aP) aP) aP) (MU (pv 0) aP set_list))
   (aM (bo (cH qa (cH Mi (cH qa (cH Cg (cz gH (pv 0) aP (fun _ _=>rfl)) (cz gH (pv 0) aP (fun _ _=>rfl))) aP) aP) (pv 1))))),?_⟩
  have hl:aj K H p [.int x,.int y]:=aj.of hp
  refine⟨_,rfl,p,_,0,_,rfl,rfl,hl,rfl,_,_,rfl,rfl,_,rfl,?_⟩
  refine eF (fun hx=>?_) (fun hx=>?_)
  ·refine⟨_,rfl,p,_,0,_,rfl,rfl,hl,rfl,_,rfl,_,_,rfl,rfl,m0,?_⟩
   refine⟨_,rfl,p,_,0,_,rfl,rfl,hl,rfl,_,rfl,_,_,rfl,rfl,⟨m0,by omega⟩,_,rfl,p,_,0,0,rfl,rfl,hp,rfl,?_⟩
   refine⟨_,rfl,?_⟩
   exact q _ _ _ (AY _ (by omega)) (AZ _ m0) (Int.ediv_nonneg x0 (by omega)) y0 y1
  ·refine⟨_,rfl,p,_,1,_,rfl,rfl,hl,rfl,_,_,rfl,rfl,.inr ⟨by decide,by decide⟩,_,_,rfl,rfl,_,_,rfl,rfl,(by show(0:Int) < 2147483647;decide),_,rfl,p,_,1,1,rfl,rfl,hp,rfl,?_⟩
   have h1:=AY (y * 39373+20011) (show(2147483647:Int)≠0 by decide)
   have h2:=AZ (y * 39373+20011) (show(0:Int) < 2147483647 by decide)
   refine⟨_,rfl,p,_,1,_,rfl,rfl,aj.of ag,rfl,_,rfl,p,_,1,_,rfl,rfl,aj.of ag,rfl,_,_,rfl,rfl,.inl ⟨Int.lt_of_lt_of_le (by decide) h1,Int.lt_of_lt_of_le h2 (by decide)⟩,_,_,rfl,rfl,(by show(0:Int) < 2147483563;decide),_,_,rfl,rfl,⟨by decide,by decide⟩,_,rfl,_,_,rfl,rfl,m0,?_⟩
   exact q _ x _ (AY _ (by omega)) (AZ _ m0) x0 h1 (by omega)
end
end aX
namespace aX
open PySem L2
def d9 (p:Addr) (H:Hp):Prop:= ∃x y:Int,H p=some (.lst [.int x,.int y])/\0<=x/\0<=y/\y < 4294967296
structure bX (p:Addr) (H H':Hp):Prop where
 ok:d9 p H'
 kp:∀b o,H b=some o->b≠p->H' b=some o
section
variable {p q : Addr} {H H1 H2 : Hp} {o : HO}
theorem bX.refl (h:d9 p H):bX p H H:=⟨h,fun _ _ e _=>e⟩
theorem bX.trans (a:bX p H H1) (b:bX p H1 H2):bX p H H2:=⟨b.ok,fun c o e n=>b.kp c o (a.kp c o e n) n⟩
theorem d9.ne (h:d9 p H) (hq:H q=none):p≠q:=let ⟨_,_,e,_⟩:=h;ao e hq
theorem bX.new (a:bX p H H1) (hq:H1 q=none):bX p H (upd H1 q o):=by
 refine⟨?_,fun b u e n=>?_⟩
 ·obtain⟨x,y,e,r⟩:=id a.ok
  exact⟨x,y,by rw[ah (a.ok.ne hq)];exact e,r⟩
 ·rw[ah (ao (a.kp b u e n) hq)];exact a.kp b u e n
theorem bX.free (a:bX p H H1) (hq:H1 q=none):H q=none:=by
 cases e:H q with
 | none=>rfl
 | some u =>
  by_cases h:q=p
  ·subst h;obtain⟨_,_,z,_⟩:=a.ok;rw[z]at hq;cases hq
  ·rw[a.kp q u e h]at hq;cases hq
theorem bX.write (a:bX p H H1) (hq:H q=none) (hp:p≠q):bX p H (upd H1 q o):=by
 refine⟨?_,fun b u e n=>?_⟩
 ·obtain⟨x,y,e,r⟩:=id a.ok
  exact⟨x,y,by rw[ah hp];exact e,r⟩
 ·rw[ah (ao e hq)];exact a.kp b u e n
theorem kh {m:Int}{Q:VK}{E:XK} (h:d9 p H) (m0:0 < m) (m1:m<=1000000) (k:∀d H',0<=d->d < m->bX p H H'->Q (.int d) H'):lA [.ref p,.int m] H Q E:=by
 obtain⟨x,y,e,x0,y0,y1⟩:=h
 unfold lA
 exact⟨p,m,x,y,rfl,e,x0,y0,y1,m0,m1,fun d x' y' d0 d1 h1 h2 h3=>k d _ d0 d1 ⟨⟨x',y',ag,h1,h2,h3⟩,fun b o z n=>by rw[ah n];exact z⟩⟩
end
theorem LB:∀cs:List Nat,((cs.map sign).map (·.length)).sum=cs.length
 | []=>rfl
 | c::cs=>by
  have e:(sign c).length=1:=rfl
  simp only[cD,Kb,LB cs,dZ,e];omega
abbrev pX:Str:= "abcdefghijklmnopqrstuvwxyz"
theorem LC {d:Int} (h0:0<=d) (h1:d < 26):∃c:Nat,ee pX.cps.toList d=some c/\97<=c/\c<=122/\c=97+d.toNat:=by
 have all:∀i:Nat,i < 26->pX.cps.toList[i]? = some (97+i):=by decide +kernel
 refine⟨97+d.toNat,?_,by omega,by omega,rfl⟩
 rw[show d=((d.toNat:Nat):Int) by omega]
 exact eO (all d.toNat (by omega))
section
variable {P : Program} {w : World} {K : PySem.W.Frag} {mg : Str -> Option Value} {base : Heap}
@[irreducible] def sF:Sp:=fun vs H Q _=>∃ (p:Addr) (m:Nat),vs = [.ref p,.int m]/\d9 p H/\m<=20 /\
 ∀ (l:Addr) (ys:List Str) (H':Hp),H l=none->ys.length=m->(∀y∈ys,Nm y)->ys.Nodup->bX p H H'->H' l=some (.lst (ys.map V.str))->Q (.ref l) H'
abbrev yS:List Str:= ["_law_pot_here", "_law_many", "_law_letters", "_law_found", "_law_k", "_law_size", "_law_name", "_law_some"]
theorem n6:bZ yS ["_law_pot_here", "_law_many"] (ay jU):=⟨rfl,rfl,rfl,by decide +kernel,rfl,by decide +kernel,by decide +kernel⟩
def M8 (s:Stmt):List Stmt:=match s with | .If _ b _ _=>b | _=>[]
abbrev aaT:Scope:=cR (ig (eW (cw (vv (cw (aQ jU) 2)) 1)))
abbrev aaU:Scope:=cR (eW (cw (M8 (cw (vv (cw (aQ jU) 2)) 2)) 0))
abbrev aaV:Scope:=cR (Oi (eW (cw (M8 (cw (vv (cw (aQ jU) 2)) 2)) 1)))
theorem Qx:cf yS (ay jU) ["_law_turn", "_law_letters", "_law_pot_here"] [none,some 2,some 0] aaT:=⟨rfl,by decide +kernel,by decide +kernel,rfl,d7 (by decide +kernel),by decide +kernel⟩
theorem Qy:cf yS (ay jU) ["_law_turn", "_law_letters", "_law_name"] [none,some 2,some 6] aaU:=⟨rfl,by decide +kernel,by decide +kernel,rfl,d7 (by decide +kernel),by decide +kernel⟩
theorem Qz:cf yS (ay jU) ["_law_one", "_law_found"] [none,some 3] aaV:=⟨rfl,by decide +kernel,by decide +kernel,rfl,d7 (by decide +kernel),by decide +kernel⟩
theorem WT {f fD:Addr}{fd rb:FuncData} (F:aZ K "_law_names" "_law_names" jU f fd) (B:eK mg) (FD:aZ K "_law_digit" "_law_digit" oj fD rb) (bD:Binds K rb ["_law_pot_here", "_law_many"] []) (mD:mg "_law_digit" = some (.ref fD)) :
  aG P w K mg base aL 3 f fd ["_law_pot_here", "_law_many"] sF:=by
 have GD:aG P w K mg base aL 1 fD rb ["_law_pot_here", "_law_many"] lA:=BU FD
 refine F.ok n6 (fun vs H Q E h=>?_) (fun cdv A outer s H vs Q E hr h=>?_)
 ·unfold sF at h;obtain⟨p,m,rfl,_⟩:=h;rfl
 ·unfold sF at h
  obtain⟨p,m,rfl,hp,m1,q⟩:=h
  have cC:aT 1 _:=hr.mono (by decide)
  refine⟨_,aC (a9 (i:=2) n6.nd rfl (Or.inr rfl) jq)
   (aC (a9 (i:=3) n6.nd rfl (Or.inr rfl) (cQ ai))
   (aC (jr jM rfl (nT rfl B.range (ae (pv 1) ai)) (a8 (i:=4) n6.nd rfl (Or.inl rfl))
    (aC (a9 (i:=5) n6.nd rfl (Or.inl rfl) (cH p9 aP (aR GD cC rfl mD FD.kp bD .nil aV (ae (pv 0) (ae (cz gH (cQ (ae aP (ae aP (ae aP ai))))
      (aR GD cC rfl mD FD.kp bD .nil aV (ae (pv 0) (ae aP ai))) (fun _ _=>rfl)) ai)))))
    (aC (a9 (i:=6) n6.nd rfl (Or.inr rfl) (jt PySem.F.plainAttrs_str PySem.F.slot_str_join PySem.F.type_str_join Xl jq
      (ae (ff rfl Qx (nT rfl B.range (ae (pv 5) ai)) (fun s H fp=>⟨a8 (i:=0) Qx.nd rfl (Or.inl rfl),iC,cz MZ (pv 1) (aR GD cC rfl mD FD.kp bD .nil aV (ae (pv 2) (ae aP ai))) (fun _ _=>rfl)⟩)) ai)))
    (aC (cN (cE Bt (pv 6) (pv 3) rfl)
      (aC (rS (i:=7) rfl Qy n6.nd rfl rfl (nT rfl B.range (ae (cH p9 (pv 1) aP) ai)) (fun s H fp=>⟨a8 (i:=0) Qy.nd rfl (Or.inl rfl),iC,
        cH KG (cH KG (yB Ys (pv 2) yJ (vo aP)) (cz MZ (pv 1) (pv 0) (fun _ _=>rfl))) jq⟩))
      (aM (a9 (i:=6) n6.nd rfl (Or.inr rfl) (cz gH (ff rfl Qz (gG (pv 7)) (fun s H fp=>⟨a8 (i:=0) Qz.nd rfl (Or.inl rfl),jl (cE (Be K rfl) (pv 0) (pv 1) rfl),pv 0⟩)) aP (fun _ _=>rfl)))))
      cM)
    (aM (fc (jt lu pO pP kc (pv 3) (ae (pv 6) ai))))))))
   (aM (bo (pv 3))))),?_⟩
  refine⟨a4 _,fun l hl=>?_⟩
  have cB:p≠l:=hp.ne hl
  have em:((m:Int)).toNat=m:=JJ m
  refine⟨_,rfl,(m:Int),rfl,by omega,by omega,rV (fun i σ H1=>∃ (ys:List Str) (v4 v5 v6 v7:Option V),σ = [some (.ref p),some (.int m),some (.str pX),some (.ref l),v4,v5,v6,v7]/\ys.length=i/\(∀y∈ys,Nm y)/\ys.Nodup/\bX p H H1/\H1 l=some (.lst (ys.map V.str)))
   ⟨[],none,none,none,none,rfl,rfl,(fun y hy=>by simp at hy),rG,(bX.refl hp).new hl,ag⟩ ?_ ?_⟩
  ·rintro i σ H1 hi ⟨ys,v4,v5,v6,v7,rfl,hlen,Ab,eY,pa,gC⟩
   rw[em]at hi
   refine⟨_,rfl,by show 3<=sizeLine;rw[aI];decide,fun a hq=>⟨_,rfl,?_⟩⟩
   have nqp:a≠p:=aO (pa.ok.ne hq)
   refine kh (p:=p) (m:=3) ((bX.refl pa.ok).new hq).ok (by decide) (by decide) fun d H2 d0 d1 pb=>?_
   obtain⟨mv,hat,mv0,mv1⟩:∃mv:Int,ee [V.int 1,V.int 2,V.int 8] d=some (V.int mv)/\0 < mv/\mv<=8:=by
    have:d=0\/d=1\/d=2:=by omega
    rcases this with rfl | rfl | rfl
    ·exact⟨1,rfl,by decide,by decide⟩
    ·exact⟨2,rfl,by decide,by decide⟩
    ·exact⟨8,rfl,by decide,by decide⟩
   refine⟨a,_,d,_,rfl,rfl,aj.of (pb.kp a _ ag nqp),hat,?_⟩
   refine kh (p:=p) (m:=mv) pb.ok mv0 (by omega) fun e H3 e0 e1 pc=>⟨_,_,rfl,rfl,?_⟩
   have pd:bX p H1 H3:=(((bX.refl pa.ok).new hq).trans pb).trans pc
   have hl3:H3 l=some (.lst (ys.map V.str)):=pd.kp l _ gC (aO cB)
   refine⟨rfl,_,rfl,1+e,rfl,by omega,by omega,fun a1 iw=>?_⟩
   have zY:p≠a1:=pc.ok.ne iw
   refine KJ (fun i zs τ H4=>∃ (cs:List Nat) (t0:Option V),zs=(cs.map sign).map V.str/\cs.length=i/\(∀c∈cs,97<=c/\c<=122)/\τ = [t0,some (.str pX),some (.ref p)]/\bX p H3 H4/\H4 a1=some (.lst zs))
    ⟨[],none,rfl,rfl,(fun c hc=>by simp at hc),rfl,(bX.refl pc.ok).new iw,ag⟩ (fun i zs τ H4 ⟨_,_,_,_,_,_,_,z⟩=>z) ?_ ?_
   ·rintro j zs τ H4 hj ⟨cs,t0,rfl,gM,Hb,rfl,pe,hz⟩
    refine⟨_,rfl,_,rfl,kh (p:=p) (m:=26) pe.ok (by decide) (by decide) fun d H5 d0 d1 pf=>?_⟩
    obtain⟨c,hc,c0,c1,_⟩:=LC d0 d1
    have hz5:H5 a1=_:=pf.kp a1 _ hz (aO zY)
    refine⟨pX,d,c,rfl,rfl,(by rw[aI];decide +kernel),hc,hz5,?_,cw_next hj ⟨cs ++ [c],_,?_,?_,?_,rfl,?_,ag⟩⟩
    ·rw[aE,aE,gM,aI];omega
    ·rw[bV,bV];rfl
    ·rw[c9,gM];rfl
    ·intro x hx
     rcases dk.mp hx with h | h
     ·exact Hb x h
     ·have:x=c:=by simpa using h
      rw[this];exact⟨c0,c1⟩
    ·exact(pe.trans pf).write ((bX.refl pc.ok).free iw) zY
   ·rintro zs τ H4 ⟨cs,t0,rfl,gM,Hb,rfl,pe,hz⟩
    have hsl:((cs.map sign).map (·.length)).sum=cs.length:=by
     exact LB cs
    refine⟨("" : Str),a1,cs.map sign,rfl,rfl,.inl (aj.of hz),?_,?_⟩
    ·have:(Str.length ("" : Str))=0:=rfl
     rw[hsl,this,gM];omega
    rw[U5]
    generalize Ot:(⟨cs.toArray⟩:Str)=nm
    have Dq:Nm nm:=by
     have el:nm.length=cs.length:=by rw[<-Ot];show cs.toArray.size=_;simp
     refine⟨by omega,by omega,fun c hc=>Hb c ?_⟩
     rw[<-Ot]at hc;simpa using hc
    have pg:bX p H1 H4:=pd.trans pe
    have oZ:H4 l=some (.lst (ys.map V.str)):=pe.kp l _ hl3 (aO cB)
    refine⟨_,rfl,_,rfl,l,_,rfl,.inl (aj.of oZ),rfl,jN _,_,rfl,?_⟩
    rw[aq cU,ke]
    refine eF (fun bg=>?_) (fun bg=>?_)
    ·
     refine⟨_,rfl,_,_,rfl,rfl,(m:Int)+1,rfl,by omega,by omega,fun a2 lg=>?_⟩
     refine KJ (fun i zs τ H5=>∃t0:Option V,zs=((List.range i).map fun j=>Txt.slice nm none (some 6)++sign (97+j)++("q" : Str)).map V.str/\τ = [t0,some (.str pX),some (.str nm)]/\H5=upd H4 a2 (.lst zs))
      ⟨none,rfl,rfl,rfl⟩ (fun i zs τ H5 ⟨_,_,_,z⟩=>by rw[z];exact ag) ?_ ?_
     ·rintro j zs τ H5 hj ⟨t0,rfl,rfl,rfl⟩
      have z8:j < m+1:=by omega
      obtain⟨c,hc,c0,c1,hce⟩:=LC (d:=0+(j:Int)) (by omega) (by omega)
      have aaW:c=97+j:=by rw[hce];omega
      have l1:(Txt.slice nm none (some 6)).length<=6:=KN nm
      refine⟨_,rfl,_,rfl,nm,rfl,by have:=Dq.hi;omega,_,rfl,_,rfl,pX,_,c,rfl,rfl,(by rw[aI];decide +kernel),hc,_,_,rfl,rfl,?_,_,_,rfl,rfl,?_,ag,?_,cw_next hj ⟨_,?_,rfl,?_⟩⟩
      ·show _+1<=sizeLine;rw[aI];omega
      ·have e1:(Txt.slice nm none (some 6)++(⟨#[c]⟩:Str)).length=(Txt.slice nm none (some 6)).length+1:=by
        show(_ ++ #[c]:Array Nat).size=_;rw[JV];rfl
       have e2:(("q" : Str)).length=1:=by decide +kernel
       show(Txt.slice nm none (some 6)++(⟨#[c]⟩:Str)).length+_<=sizeLine
       rw[e1,e2,aI];omega
      ·rw[aE,aE,TB,aI];omega
      ·rw[List.range_succ,bV,bV,aaW];rfl
      ·rw[jo]
     ·rintro zs τ H5 ⟨t0,rfl,rfl,rfl⟩
      have em1:((m:Int)+1).toNat=m+1:=by omega
      generalize fq:(List.range ((m:Int)+1).toNat).map (fun j=>Txt.slice nm none (some 6)++sign (97+j)++("q" : Str))=cands
      have cnd:cands.Nodup:=by
       rw[<-fq]
       refine List.Pairwise.map _ (fun a b Qw h=>Qw ?_) List.nodup_range
       have:=Wg h
       omega
      have cnm:∀y∈cands,Nm y:=by
       intro y hy
       rw[<-fq]at hy
       obtain⟨j,hj,rfl⟩:=bf.mp hy
       have:=l8.mp hj
       exact Xm Dq.az ⟨by omega,by omega⟩
      have alV:cands.length=m+1:=by rw[<-fq,aE,TB,em1]
      have Ac:upd H4 a2 (.lst (cands.map V.str)) l=some (.lst (ys.map V.str)):=by rw[ah (ao oZ lg)];exact oZ
      refine⟨_,rfl,a2,rfl,⟨_,aj.of ag⟩,fun a3 o6=>?_⟩
      refine iV (xs:=cands.map V.str) (fun i zs τ H6=>∃t0:Option V,zs=((cands.take i).filter (fun y=>!decide (y∈ys))).map V.str/\τ = [t0,some (.ref l)]/\H6=upd (upd H4 a2 (.lst (cands.map V.str))) a3 (.lst zs))
       ⟨none,rfl,rfl,rfl⟩ (fun i zs τ H6 ⟨_,_,_,z⟩=>by rw[z];exact⟨ag,aj.of (by rw[ah (ao ag o6)];exact ag)⟩) ?_ ?_
      ·rintro j x zs τ H6 hx ⟨t0,rfl,rfl,rfl⟩
       rw[f6]at hx
       obtain⟨y,hy,rfl⟩:=iS.mp hx
       have b6:j < (cands.map V.str).length:=by rw[aE];exact(b9.mp hy).1
       have tk:cands.take (j+1)=cands.take j ++ [y]:=by rw[dz,hy];rfl
       have Ad:(upd (upd H4 a2 (.lst (cands.map V.str))) a3 (.lst (((cands.take j).filter (fun y=>!decide (y∈ys))).map V.str))) l=some (.lst (ys.map V.str)):=by rw[ah (ao Ac o6)];exact Ac
       refine⟨_,rfl,_,rfl,l,_,rfl,.inl (aj.of Ad),rfl,jN _,_,rfl,?_⟩
       rw[aA rfl,ke]
       refine eF (fun hn=>?_) (fun hn=>?_)
       ·refine⟨_,rfl,ag,?_,cw_next b6 ⟨_,?_,rfl,?_⟩⟩
        ·have h1:=gP (fun y=>!decide (y∈ys)) (cands.take j)
         have h2:(cands.take j).length<=cands.length:=by rw[dq];omega
         rw[aE,aI];omega
        ·rw[tk,ji,bV,Ue,aA hn];rfl
        ·rw[jo]
       ·refine cw_next b6 ⟨_,?_,rfl,rfl⟩
        rw[tk,ji,Ue,aq hn,List.filter_nil,eV]
      ·rintro zs τ H6 ⟨t0,rfl,rfl,rfl⟩
       rw[aE,d5]
       obtain⟨y0,hy0,hyn⟩:=yP (found:=ys) cnd (by omega)
       have oH:y0∈cands.filter (fun y=>!decide (y∈ys)):=hV.mpr ⟨hy0,by simpa using hyn⟩
       cases hf:cands.filter (fun y=>!decide (y∈ys)) with
       | nil=>rw[hf]at oH;simp at oH
       | cons z1 zr =>
        have hz1:z1∈cands.filter (fun y=>!decide (y∈ys)):=by rw[hf];exact ba
        obtain⟨zc,zn⟩:=hV.mp hz1
        have zn':z1 ∉ ys:=by simpa using zn
        have Ad:(upd (upd H4 a2 (.lst (cands.map V.str))) a3 (.lst ((z1::zr).map V.str))) l=some (.lst (ys.map V.str)):=by rw[ah (ao Ac o6)];exact Ac
        have ph:bX p H (upd (upd H4 a2 (.lst (cands.map V.str))) a3 (.lst ((z1::zr).map V.str))):=((pa.trans pg).new lg).new o6
        refine⟨a3,_,0,V.str z1,rfl,rfl,aj.of ag,(show ee ((z1::zr).map V.str) ((0:Nat):Int)=some (V.str z1) from eO rfl),?_⟩
        refine⟨_,rfl,.inl ⟨rfl,_,aj.of Ad⟩,_,rfl,l,_,_,rfl,rfl,Ad,?_,?_⟩
        ·rw[aE,aI];omega
        ·refine⟨ys ++ [z1],_,_,_,_,rfl,by rw[c9,hlen];rfl,?_,?_,?_,?_⟩
         ·intro y hy
          rcases dk.mp hy with h | h
          ·exact Ab y h
          ·have:y=z1:=by simpa using h
           rw[this];exact cnm z1 zc
         ·rw[lr]
          exact⟨eY,by simp,fun a ha b hb=>by rw[show b=z1 by simpa using hb];exact fun h=>zn' (h ▸ ha)⟩
         ·exact ph.write hl cB
         ·rw[ag,bV];rfl
    ·have i9:nm ∉ ys:=by simpa using bg
     have ph:bX p H H4:=pa.trans pg
     refine⟨_,rfl,.inl ⟨rfl,_,aj.of oZ⟩,_,rfl,l,_,_,rfl,rfl,oZ,?_,?_⟩
     ·rw[aE,aI];omega
     ·refine⟨ys ++ [nm],_,_,_,_,rfl,by rw[c9,hlen];rfl,?_,?_,?_,?_⟩
      ·intro y hy
       rcases dk.mp hy with h | h
       ·exact Ab y h
       ·have:y=nm:=by simpa using h
        rw[this];exact Dq
      ·rw[lr]
       exact⟨eY,by simp,fun a ha b hb=>by rw[show b=nm by simpa using hb];exact fun h=>i9 (h ▸ ha)⟩
      ·exact ph.write hl cB
      ·rw[ag,bV];rfl
  ·rintro σ H1 ⟨ys,v4,v5,v6,v7,rfl,hlen,Ab,eY,pa,gC⟩
   rw[em]at hlen
   exact⟨_,rfl,q l ys H1 hl hlen Ab eY pa gC⟩
end
end aX
namespace aX
open PySem L2 PySem.W HT
theorem UT {X:Cx} (K:Frag) (h:X.K=K):df X (.type "list") (fun xs H Q=>∃p ys,xs = [.ref p]/\(aj K H p ys\/aJ K H p ys) /\ ∀l,H l=none->Q (.ref l) (upd H l (.lst ys))):=by subst h;exact u6
theorem UU {X:Cx} (K:Frag) (h:X.K=K) (hc:X.calm=true):df X (.builtin "any") (fun xs H Q=>∃ (p:Addr) (bs:List Bool),xs = [.ref p]/\aj K H p (bs.map V.bl)/\Q (.bl (bs.any id)) H):=by subst h;exact Bx hc
theorem VW {X:Cx} (K:Frag) (h:X.K=K):zC X (NY K):=by subst h;exact B6
def iH (av:Addr->Prop) (H:Hp) (vs:List V) (rows:List (List Str)):Prop:=Paired (fun y r=>∃a,y=V.ref a/\av a/\H a=some (.lst (r.map V.str))) vs rows
theorem r6 {av:Addr->Prop}{H:Hp}:∀ {vs:List V}{rows:List (List Str)}{i:Nat}{v:V},iH av H vs rows->vs[i]? = some v -> ∃a r,v=V.ref a/\rows[i]? = some r/\av a/\H a=some (.lst (r.map V.str))
 | _,_,i,v,.nil,e=>by simp at e
 | _,_,0,v,.cons p _,e=>by
  obtain⟨a,rfl,n,q⟩:=p
  simp at e;subst e
  exact⟨a,_,rfl,rfl,n,q⟩
 | _,_,i+1,v,.cons _ t,e=>by
  obtain⟨a,r,e1,e2,n,q⟩:=r6 (i:=i) t (by simpa using e)
  exact⟨a,r,e1,by simpa using e2,n,q⟩
theorem nR {av QA:Addr->Prop}{H H':Hp}{vs:List V}{rows:List (List Str)} (h:iH av H vs rows) (f:∀a xs,av a->H a=some (.lst xs)->QA a/\H' a=some (.lst xs)):iH QA H' vs rows:=
 Paired.imp' (fun _ _ ⟨a,e,n,q⟩=>⟨a,e,(f a _ n q).1,(f a _ n q).2⟩) h
theorem yo {av:Addr->Prop}{H:Hp}{vs:List V}{rows:List (List Str)}{a:Addr}{r:List Str}:iH av H vs rows->av a->H a=some (.lst (r.map V.str))->iH av H (vs ++ [.ref a]) (rows ++ [r])
 | .nil,n,q=>.cons ⟨a,rfl,n,q⟩ .nil
 | .cons p t,n,q=>.cons p (yo t n q)
theorem pS {av:Addr->Prop}{H:Hp}{vs:List V}{rows:List (List Str)} (h:iH av H vs rows):vs.length=rows.length:=ll h
theorem Zp {x:Str} (h:Nm x):PyData.strOk x=true:=by
 unfold PyData.strOk
 rw[<-Array.all_toList,pM];intro c hc;have:=(h.az c hc).2;exact gO (by omega)
theorem lx (H:Hp):∀xs:List Str,gq H (xs.map V.str) (xs.map PyData.str)
 | []=>.nil
 | x::xs=>.cons (.str x) (lx H xs)
theorem iW:∀ {xs:List Str},(∀x∈xs,Nm x)->PyData.canLayAll0 (xs.map PyData.str)=true
 | [],_=>rfl
 | x::xs,h=>by
  show(PyData.strOk x && PyData.canLayAll0 (xs.map PyData.str))=true
  rw[Zp (h x ba),iW fun y hy=>h y (bU _ hy)];rfl
theorem pT:∀xs:List Str,PyData.depthAll (xs.map PyData.str)=0
 | []=>rfl
 | x::xs=>by rw[cD];simp only[PyData.depthAll,PyData.depth,pT xs,Nat.max_self]
theorem ne_nil {H:Hp}{a b:Addr}{xs:List Str}{Q:VK} (ha:H a=some (.lst (xs.map V.str))) (hb:H b=some (.lst [])) (hn:∀x∈xs,Nm x) (q:Q (.bl (!xs.isEmpty)) H):we (.ref a) (.ref b) H Q:=by
 refine⟨.list (xs.map PyData.str),.list [],.lst ha (lx _ _),.lst hb .nil,iW hn,rfl,by show PyData.depthAll _+1<=60;rw[pT];decide,?_⟩
 cases xs with
 | nil=>exact q
 | cons x xs=>exact q
theorem eq_nil {H:Hp}{a b:Addr}{xs:List Str}{Q:VK} (ha:H a=some (.lst (xs.map V.str))) (hb:H b=some (.lst [])) (hn:∀x∈xs,Nm x) (q:Q (.bl xs.isEmpty) H):wc (.ref a) (.ref b) H Q:=by
 refine⟨.list (xs.map PyData.str),.list [],.lst ha (lx _ _),.lst hb .nil,iW hn,rfl,by show PyData.depthAll _+1<=60;rw[pT];decide,?_⟩
 cases xs with
 | nil=>exact q
 | cons x xs=>exact q
theorem VX (xs:List V) (k:Nat):gu xs (some (k:Int)) none=xs.drop k:=by
 unfold gu;rw[HT.LK,HT.Mm]
 by_cases h:k<=xs.length
 ·rw[Nat.min_eq_left h,T7 (by rw[Ts];omega)]
 ·rw[Nat.min_eq_right (by omega),Kc,TL (by omega)];simp
def busy (rest:List (List Str)) (x:Str):Bool:=rest.any fun o=>decide (x∈o.drop 1)
def cZ (all:List (List Str)):List (List Str)->List Str
 | []=>[]
 | []::rest=>cZ all rest
 | (x::_)::rest=>if busy all x then cZ all rest else x::cZ all rest
theorem yy {n:Str}:∀ {k:Nat}{rest:List (List Str)},cj k rest n=none ↔ ∀r∈rest,n∈r->r.head? = some n
 | k,[]=>by simp[cj]
 | k,[]::rest=>by
  show cj (k+1) rest n=none ↔ _
  rw[yy (k:=k+1) (rest:=rest)];simp
 | k,(x::r)::rest=>by
  show(if n∈x::r/\x≠n then some (k,x) else cj (k+1) rest n)=none ↔ _
  by_cases h:n∈x::r/\x≠n
  ·rw[aA h]
   constructor
   ·intro z;cases z
   ·intro z
    have:=z _ ba h.1
    exact absurd (by simpa using this) h.2
  ·rw[aq h,yy (k:=k+1) (rest:=rest)]
   constructor
   ·intro z q hq hn
    rcases bq.mp hq with rfl | hq
    ·by_cases e:x=n
     ·rw[e];rfl
     ·exact absurd ⟨hn,e⟩ h
    ·exact z q hq hn
   ·exact fun z q hq=>z q (bU _ hq)
theorem L9 {all:List (List Str)} (eY:∀r∈all,r.Nodup) (x:Str):busy all x=false ↔ cj 0 all x=none:=by
 rw[yy]
 unfold busy
 rw[Tf]
 constructor
 ·intro h q hq hx
  have h1:=h q hq
  cases q with
  | nil=>simp at hx
  | cons y t =>
   rcases bq.mp hx with rfl | hx
   ·rfl
   ·exact absurd (by simpa using hx) h1
 ·intro h r hr
  cases r with
  | nil=>simp
  | cons y t =>
   intro hx
   have hx:x∈t:=by simpa using hx
   obtain rfl:y=x:=by simpa using h _ hr (bU _ hx)
   exact(ix.mp (eY _ hr)).1 hx
theorem Bn {all:List (List Str)} (eY:∀r∈all,r.Nodup):∀rest:List (List Str),(cZ all rest).head? = jm all rest
 | []=>rfl
 | []::rest=>Bn eY rest
 | (x::t)::rest=>by
  show(if busy all x then cZ all rest else x::cZ all rest).head? = if (cj 0 all x).isNone then some x else jm all rest
  cases hb:busy all x with
  | false=>rw[(L9 eY x).mp hb];rfl
  | true =>
   have hn:(cj 0 all x).isNone=false:=by
    cases z:cj 0 all x with
    | none=>rw[(L9 eY x).mpr z]at hb;cases hb
    | some _=>rfl
   rw[hn]
   exact Bn eY rest
theorem vb (all:List (List Str)) (r:List Str):∀rest:List (List Str),cZ all (rest ++ [r])=cZ all rest++cZ all [r]
 | []=>rfl
 | []::rest=>vb all r rest
 | (x::t)::rest=>by
  show(if busy all x then cZ all (rest ++ [r]) else x::cZ all (rest ++ [r]))=(if busy all x then cZ all rest else x::cZ all rest)++cZ all [r]
  rw[vb all r rest]
  split <;> rfl
theorem BC (all:List (List Str)):∀rest:List (List Str),(cZ all rest).length<=rest.length
 | []=>aN _
 | []::rest=>Nat.le_succ_of_le (BC all rest)
 | (x::t)::rest=>by
  have:=BC all rest
  show(if busy all x then cZ all rest else x::cZ all rest).length<=rest.length+1
  split
  ·omega
  ·rw[dZ];omega
theorem yz {all:List (List Str)}{n:Str}:∀ {rest:List (List Str)},n∈cZ all rest -> ∃r∈rest,n∈r
 | [],h=>by simp[cZ]at h
 | []::rest,h=>let ⟨r,hr,e⟩:=yz (rest:=rest) h;⟨r,bU _ hr,e⟩
 | (x::t)::rest,h=>by
  have h:n∈(if busy all x then cZ all rest else x::cZ all rest):=h
  split at h
  ·obtain⟨r,hr,e⟩:=yz (rest:=rest) h
   exact⟨r,bU _ hr,e⟩
  ·rcases bq.mp h with rfl | h
   ·exact⟨_,ba,ba⟩
   ·obtain⟨r,hr,e⟩:=yz (rest:=rest) h
    exact⟨r,bU _ hr,e⟩
theorem KY {n:Str}{rest:List (List Str)} (h:∀r∈rest,r.Nodup):∀r∈L2.without n rest,r.Nodup:=by
 intro r hr
 obtain⟨q,hq,rfl⟩:=bf.mp hr
 exact(h q hq).filter _
structure Ou (H:Hp) (rows:List (List Str)) (l fa:Addr) (m:Nat) (σ:St) (H1:Hp) (rest:List (List Str)) (lv:List V) (acc:List Str) (la:Addr):Prop where
 st:∃v3:Option V,σ = [some (.ref l),some (.ref la),some (.ref fa),v3]
 mm:m=total rest
 o7:H1 la=some (.lst lv)
 rr:iH (fun a=>a≠fa) H1 lv rest
 ne:la≠fa
 eZ:H1 fa=some (.lst (acc.map V.str))
 sm:Small rest
 nd:∀r∈rest,r.Nodup
 same:ak H H1
 lim:acc.length+total rest<=1000
 eq:bw (total rows) rows=(bw (total rest) rest).map (acc ++ ·)
abbrev xw:List Str:= ["_law_rows", "_law_left", "_law_found", "_law_free"]
theorem wq:bZ xw ["_law_rows"] (ay jn):=⟨rfl,rfl,rfl,by decide +kernel,rfl,by decide +kernel,by decide +kernel⟩
def VY (s:Stmt):Expr:=match s with | .While t _ _ _=>t | _=>.Constant .none 0 ⟨0,0,0,0⟩
def M9 (e:Expr):Expr:=match e with | .ListComp _ (⟨_,_,i::_,_⟩::_) _ _=>i | _=>.Constant .none 0 ⟨0,0,0,0⟩
def Cq (e:Expr) (i:Nat):Expr:=match e with | .BoolOp _ es _=>es.getD i (.Constant .none 0 ⟨0,0,0,0⟩)|_=>.Constant .none 0 ⟨0,0,0,0⟩
def Ov (e:Expr):Expr:=match e with | .UnaryOp _ x _=>x | _=>.Constant .none 0 ⟨0,0,0,0⟩
abbrev sW:Stmt:=cw (aQ jn) 2
abbrev eA:Expr:=eW (cw (aQ jn) 0)
abbrev eB:Expr:=ig (VY sW)
abbrev eC:Expr:=eW (cw (vf sW) 0)
abbrev eD:Expr:=ig (Ov (Cq (M9 eC) 1))
abbrev eE:Expr:=eW (cw (vf sW) 3)
theorem QB:cf xw (ay jn) ["_law_row"] [none] (cR eA):=⟨rfl,by decide +kernel,by decide +kernel,rfl,d7 (by decide +kernel),by decide +kernel⟩
theorem QC:cf xw (ay jn) ["_law_row"] [none] (cR eB):=⟨rfl,by decide +kernel,by decide +kernel,rfl,d7 (by decide +kernel),by decide +kernel⟩
theorem QD:cf xw (ay jn) ["_law_row", "_law_left"] [none,some 1] (cR eC):=⟨rfl,by decide +kernel,by decide +kernel,rfl,d7 (by decide +kernel),by decide +kernel⟩
theorem csD {env:Env}:cf ["_law_row", "_law_left"] (relabel (cR eC) env) ["_law_other", "_law_row"] [none,some 0] (cR eD):=nest rfl (by decide +kernel) (by decide +kernel) rfl (by decide +kernel) (by decide +kernel)
theorem ndD:(["_law_other", "_law_row"]:List Str).Nodup:=by decide +kernel
theorem QE:cf xw (ay jn) ["_law_row", "_law_free"] [none,some 3] (cR eE):=⟨rfl,by decide +kernel,by decide +kernel,rfl,d7 (by decide +kernel),by decide +kernel⟩
theorem csG {env:Env}:cf ["_law_row", "_law_free"] (relabel (cR eE) env) ["_law_name", "_law_free"] [none,some 1] (cR (Ny eE)):=nest rfl (by decide +kernel) (by decide +kernel) rfl (by decide +kernel) (by decide +kernel)
theorem ndG:(["_law_name", "_law_free"]:List Str).Nodup:=by decide +kernel
section
variable {P : Program} {w : World} {K : Frag} {mg : Str -> Option Value} {base : Heap} {f : Addr} {fd : FuncData}
@[irreducible] def tK:Sp:=fun vs H Q _=>∃ (l:Addr) (ws:List V) (rows:List (List Str)),vs = [.ref l]/\H l=some (.lst ws)/\iH (fun _=>True) H ws rows/\Small rows/\(∀r∈rows,r.Nodup) /\
 (bw (total rows) rows=none -> ∀H',ak H H'->Q .aD H')/\(∀o,bw (total rows) rows=some o -> ∀p H',H p=none->ak H H'->H' p=some (.lst (o.map V.str))->Q (.ref p) H')
theorem Zq (F:aZ K "_law_merged" "_law_merged" jn f fd) (B:eK mg):aG P w K mg base aL 1 f fd ["_law_rows"] tK:=by
 refine F.ok wq (fun vs H Q E h=>?_) (fun cdv A outer s H vs Q E hr h=>?_)
 ·unfold tK at h;obtain⟨l,ws,rows,rfl,_⟩:=h;rfl
 ·unfold tK at h
  obtain⟨l,ws,rows,rfl,hl,hR,hS,eY,qn,qs⟩:=h
  have hu:=hr.units
  refine⟨_,aC (a9 (i:=1) wq.nd rfl (Or.inr rfl) (ff rfl QB (gG (pv 0)) (fun s H fp=>⟨a8 (i:=0) QB.nd rfl (Or.inl rfl),iC,fb (UT K rfl) rfl B.list boot_list (ae (pv 0) ai)⟩)))
   (aC (a9 (i:=2) wq.nd rfl (Or.inl rfl) (cQ ai))
   (aC (vh jM (pV (bx (Bx rfl) rfl B.any boot_any (ae (ff rfl QC (gG (pv 1)) (fun s H fp=>⟨a8 (i:=0) QC.nd rfl (Or.inl rfl),iC,ki (mx hu) (pv 0) (cQ ai) (cP _)⟩)) ai)) (fun _=>rfl))
    (aC (a9 (i:=3) wq.nd rfl (Or.inr rfl) (ff rfl QD (gG (pv 1)) (fun s H fp=>⟨a8 (i:=0) QD.nd rfl (Or.inr rfl),
      jl (PW.pt (pw_and (cE (mx hu) (pv 0) (cQ ai) (cP _)) (pw_and1 (iX (ib (bx (UU K rfl rfl) rfl B.any boot_any (ae (ff rfl csD (Lg K rfl (pv 1)) (fun s H fp=>⟨a8 (i:=0) ndD rfl (Or.inl rfl),iC,ki (B8 K rfl) (cz (Bw K rfl) (pv 1) aP (fun _ _=>rfl)) (yB (VW K rfl) (pv 0) (vo aP) yJ) rfl⟩)) ai))))))),
      cz (Bw K rfl) (pv 0) aP (fun _ _=>rfl)⟩)))
    (aC (cN (cE (sL hu) (pv 3) (cQ ai) (cP _)) (aM (bo iE)) cM)
    (aC (fc (jt lu pO pP kc (pv 2) (ae (cz gH (pv 3) aP (fun _ _=>rfl)) ai)))
    (aM (a9 (i:=1) wq.nd rfl (Or.inr rfl) (ff rfl QE (gG (pv 1)) (fun s H fp=>⟨a8 (i:=0) QE.nd rfl (Or.inl rfl),iC,
      ff rfl csG (Lg K rfl (pv 0)) (fun s H fp=>⟨a8 (i:=0) ndG rfl (Or.inl rfl),jl (cE vN (pv 0) (cz (Bw K rfl) (pv 1) aP (fun _ _=>rfl)) (cP _)),pv 0⟩)⟩))))))))
   (aM (bo (pv 2))))),?_⟩
  refine⟨_,rfl,l,rfl,⟨_,aj.of hl⟩,fun Ae qv=>?_⟩
  refine iV (xs:=ws) (fun i ys τ H1=>∃t0:Option V,τ = [t0]/\H1 Ae=some (.lst ys)/\ak H H1/\iH (fun a=>a≠Ae) H1 ys (rows.take i)) ⟨none,rfl,ag,aF qv,.nil⟩ (fun i ys τ H1 ⟨_,_,z1,z2,_⟩=>⟨z1,aj.of (z2 _ _ hl)⟩) ?_ ?_
  ·rintro i x ys τ H1 hx ⟨t0,rfl,h1,S1,xx⟩
   obtain⟨a,r,rfl,gD,_,fV⟩:=r6 hR hx
   have aS:i < ws.length:=(b9.mp hx).1
   have tk:rows.take (i+1)=rows.take i ++ [r]:=by rw[dz,gD];rfl
   refine⟨_,rfl,a,_,rfl,.inl (aj.of (S1 _ _ fV)),fun c hc=>?_⟩
   have Sc:=aF (o:= .lst (r.map V.str)) hc
   have QF:c≠Ae:=aO (ao h1 hc)
   refine⟨Sc _ _ h1,?_,cw_next aS ⟨_,rfl,ag,fun b o hb=>?_,?_⟩⟩
   ·have h2:=pS xx
    have h3:=hS.bb
    rw[dq]at h2
    rw[aI];omega
   ·rw[ah (ao hb qv)];exact Sc _ _ (S1 b o hb)
   ·rw[tk]
    refine yo (nR xx fun b xs nb hb=>⟨nb,by rw[ah nb];exact Sc _ _ hb⟩) QF ?_
    rw[ah QF];exact ag
  ·rintro lv0 τ H1 ⟨t0,rfl,h1,S1,xx⟩
   rw[pS hR,d5]at xx
   refine⟨a4 _,fun fa eZ=>?_⟩
   have Sf:=aF (o:= .lst []) eZ
   have tL:H fa=none:=S1.free eZ
   refine⟨fun m σ H2=>∃rest lv acc la,Ou H rows l fa m σ H2 rest lv acc la,⟨_,rows,lv0,[],Ae,⟨none,rfl⟩,rfl,Sf _ _ h1,nR xx fun b xs nb hb=>⟨ao hb eZ,Sf _ _ hb⟩,ao h1 eZ,ag,hS,eY,S1.trans Sf,by have:=u9 hS.short;have:=hS.bb;simp only[yb];omega,by cases bw (total rows) rows <;> rfl⟩,?_⟩
   rintro m σ H2 ⟨rest,lv,acc,la,R⟩
   obtain⟨v3,rfl⟩:=R.st
   refine⟨_,rfl,la,rfl,⟨_,aj.of R.o7⟩,fun pb QG=>?_⟩
   refine iV (xs:=lv) (fun i ys τ H3=>∃t0:Option V,τ = [t0]/\ys=((rest.take i).map fun r=>!r.isEmpty).map V.bl/\H3 pb=some (.lst ys)/\ak H2 H3) ⟨none,rfl,rfl,ag,aF QG⟩ (fun i ys τ H3 ⟨_,_,_,z1,z2⟩=>⟨z1,aj.of (z2 _ _ R.o7)⟩) ?_ ?_
   ·rintro i x ys τ H3 hx ⟨t0,rfl,rfl,h3,S3⟩
    obtain⟨a,r,rfl,gD,_,fV⟩:=r6 R.rr hx
    have aS:i < lv.length:=(b9.mp hx).1
    have tk:rest.take (i+1)=rest.take i ++ [r]:=by rw[dz,gD];rfl
    have xy:=j8 gD
    refine⟨_,rfl,a4 _,fun z hz=>?_⟩
    have Sz:=aF (o:= .lst []) hz
    refine ne_nil (Sz _ _ (S3 _ _ fV)) ag (R.sm.nm r xy) ?_
    refine⟨Sz _ _ h3,?_,cw_next aS ⟨_,rfl,by rw[tk,bV,bV];rfl,ag,fun b o hb=>by rw[ah (ao hb QG)];exact Sz _ _ (S3 b o hb)⟩⟩
    have h4:=R.sm.bb
    rw[aE,aE,dq,aI];omega
   ·rintro bs τ H3 ⟨t0,rfl,rfl,h3,S3⟩
    rw[pS R.rr,d5]at h3
    refine⟨pb,_,rfl,aj.of h3,_,rfl,?_⟩
    have ean:((rest.map fun r=>!r.isEmpty).any id)=rest.any fun r=>!r.isEmpty:=by rw[AM];rfl
    rw[ean]
    have oJ:=S3 _ _ R.o7
    have tM:=S3 _ _ R.eZ
    have xA:iH (fun a=>a≠fa) H3 lv rest:=nR R.rr fun b xs nb hb=>⟨nb,S3 _ _ hb⟩
    have QH:=R.same.trans S3
    refine eF (fun hA=>?_) (fun hA=>?_)
    ·refine⟨fun aH H'=>∃m',m' < m /\ ∃rest lv acc la,Ou H rows l fa m' aH H' rest lv acc la,fun _ _ z=>z,?_⟩
     refine⟨_,rfl,la,rfl,⟨_,aj.of oJ⟩,fun pc Hc=>?_⟩
     refine iV (xs:=lv) (fun i ys τ H4=>∃t0:Option V,τ = [t0,some (.ref la)]/\ys=(cZ rest (rest.take i)).map V.str/\H4 pc=some (.lst ys)/\ak H3 H4) ⟨none,rfl,rfl,ag,aF Hc⟩ (fun i ys τ H4 ⟨_,_,_,z1,z2⟩=>⟨z1,aj.of (z2 _ _ oJ)⟩) ?_ ?_
     ·rintro i x ys τ H4 hx ⟨t0,rfl,rfl,h4,S4⟩
      obtain⟨a,r,rfl,gD,_,fV⟩:=r6 xA hx
      have aS:i < lv.length:=(b9.mp hx).1
      have tk:rest.take (i+1)=rest.take i ++ [r]:=by rw[dz,gD];rfl
      have xy:=j8 gD
      have Ow:=S4 _ _ fV
      refine⟨_,rfl,a4 _,fun z hz=>?_⟩
      have Sz:=aF (o:= .lst []) hz
      refine ne_nil (Sz _ _ Ow) ag (R.sm.nm r xy) ⟨_,rfl,?_⟩
      have h5:=Sz _ _ h4
      cases r with
      | nil=>exact cw_next aS ⟨_,rfl,by rw[tk,vb];show _=(_ ++ []).map _;rw[eV],h5,S4.trans Sz⟩
      | cons y t =>
       refine⟨_,rfl,la,rfl,⟨_,aj.of (Sz _ _ (S4 _ _ oJ))⟩,fun pd uD=>?_⟩
       have npd:pc≠pd:=ao h5 uD
       refine iV (xs:=lv) (fun j ys τ H6=>∃t1:Option V,τ = [t1,some (.ref a)]/\ys=((rest.take j).map fun o=>decide (y∈o.drop 1)).map V.bl/\H6 pd=some (.lst ys)/\ak (upd H4 z (.lst [])) H6) ⟨none,rfl,rfl,ag,aF uD⟩ (fun j ys τ H6 ⟨_,_,_,z1,z2⟩=>⟨z1,aj.of (z2 _ _ (Sz _ _ (S4 _ _ oJ)))⟩) ?_ ?_
       ·rintro j x ys τ H6 QI ⟨t1,rfl,rfl,h6,S6⟩
        obtain⟨b,o,rfl,hoj,_,hob⟩:=r6 xA QI
        have b6:j < lv.length:=(b9.mp QI).1
        have jJ:rest.take (j+1)=rest.take j ++ [o]:=by rw[dz,hoj];rfl
        have QJ:=S4.trans (Sz.trans S6)
        refine⟨_,rfl,a,_,0,.str y,rfl,rfl,aj.of (QJ _ _ fV),jG,?_⟩
        refine⟨_,rfl,_,rfl,b,_,rfl,aj.of (QJ _ _ hob),fun p2 k7=>?_⟩
        have ec:gu (o.map V.str) (some 1) none=(o.drop 1).map V.str:=by
         rw[show(1:Int)=((1:Nat):Int) from rfl,VX,T9]
        rw[ec]
        have S7:=aF (o:= .lst ((o.drop 1).map V.str)) k7
        refine⟨p2,_,rfl,.inl (aj.of ag),rfl,jN _,?_⟩
        rw[aq cU,ke]
        refine⟨S7 _ _ h6,?_,cw_next b6 ⟨_,rfl,by rw[jJ,bV,bV];rfl,ag,fun c u hc=>by rw[ah (ao hc uD)];exact S7 _ _ (S6 c u hc)⟩⟩
        have h8:=R.sm.bb
        rw[aE,aE,dq,aI];omega
       ·rintro bs2 τ H6 ⟨t1,rfl,rfl,h6,S6⟩
        rw[pS xA,d5]at h6
        refine⟨pd,_,rfl,aj.of h6,_,rfl,?_⟩
        have eb:((rest.map fun o=>decide (y∈o.drop 1)).any id)=busy rest y:=by unfold busy;rw[AM];rfl
        rw[eb]
        have Hd:=Sz.trans S6
        cases hb:busy rest y with
        | true =>
         refine cw_next aS ⟨_,rfl,?_,S6 _ _ h5,S4.trans Hd⟩
         rw[tk,vb]
         show _=(_++(if busy rest y then cZ rest [] else y::cZ rest [])).map _
         rw[hb];show _=(_ ++ []).map _;rw[eV]
        | false =>
         refine⟨_,rfl,a,_,0,.str y,rfl,rfl,aj.of (Hd _ _ Ow),jG,S6 _ _ h5,?_,cw_next aS ⟨_,rfl,?_,ag,fun c u hc=>by rw[ah (ao hc Hc)];exact Hd _ _ (S4 c u hc)⟩⟩
         ·have h8:=BC rest (rest.take i)
          have h9:=R.sm.bb
          rw[dq]at h8
          rw[aE,aI];omega
         ·rw[tk,vb]
          show _=(_++(if busy rest y then cZ rest [] else y::cZ rest [])).map _
          rw[hb,bV];rfl
     ·rintro fr τ H4 ⟨t0,rfl,rfl,h4,S4⟩
      rw[pS xA,d5]at h4
      have QK:∀x∈cZ rest rest,Nm x:=fun x hx=>by
       obtain⟨r,hr,e⟩:=yz hx
       exact R.sm.nm r hr x e
      have hfh:=Bn R.nd rest
      refine⟨_,rfl,a4 _,fun z hz=>?_⟩
      have Sz:=aF (o:= .lst []) hz
      refine eq_nil (Sz _ _ h4) ag QK ⟨_,rfl,?_⟩
      have Af:d6 rest=(cZ rest rest).head?:=hfh.symm
      have He:=QH.trans (S4.trans Sz)
      have h5:=Sz _ _ h4
      have Ox:=Sz _ _ (S4 _ _ oJ)
      have Dr:=Sz _ _ (S4 _ _ tM)
      generalize cZ rest rest=fr at Af h5 QK ⊢
      cases fr with
      | nil =>
       refine qn ?_ _ He
       rw[R.eq,Bk hA Af];rfl
      | cons n ft =>
       have e:d6 rest=some n:=Af
       have lt:=rM (rZ e)
       generalize hG:upd H4 z (.lst [])=G at He h5 Ox Dr Sz ⊢
       have rrG:iH (fun a=>a≠fa) G lv rest:=nR xA fun b xs nb hb=>⟨nb,Sz _ _ (S4 _ _ hb)⟩
       refine⟨_,rfl,.inl ⟨rfl,_,aj.of Dr⟩,_,rfl,pc,_,0,.str n,rfl,rfl,aj.of h5,jG,fa,_,_,rfl,rfl,Dr,by have:=R.lim;rw[aE,aI];omega,?_⟩
       have lY:pc≠fa:=aO (ao tM Hc)
       have h6:(upd G fa (.lst (acc.map V.str ++ [.str n]))) pc=some (.lst ((n::ft).map V.str)):=by rw[ah lY];exact h5
       have Ds:(upd G fa (.lst (acc.map V.str ++ [.str n]))) la=some (.lst lv):=by rw[ah R.ne];exact Ox
       have y9:(upd G fa (.lst (acc.map V.str ++ [.str n]))) fa=some (.lst ((acc ++ [n]).map V.str)):=by rw[ag,bV];rfl
       have QL:ak H (upd G fa (.lst (acc.map V.str ++ [.str n]))):=fun b o hb=>by rw[ah (ao hb tL)];exact He b o hb
       have Hf:iH (fun a=>a≠fa) (upd G fa (.lst (acc.map V.str ++ [.str n]))) lv rest:=nR rrG fun b xs nb hb=>⟨nb,by rw[ah nb];exact hb⟩
       generalize upd G fa (.lst (acc.map V.str ++ [.str n]))=G6 at h6 Ds y9 QL Hf ⊢
       refine⟨_,rfl,la,rfl,⟨_,aj.of Ds⟩,fun le hle=>?_⟩
       have nle:le≠fa:=aO (ao y9 hle)
       refine iV (xs:=lv) (fun i ys τ H7=>∃t0:Option V,τ = [t0,some (.ref pc)]/\H7 le=some (.lst ys)/\ak G6 H7/\iH (fun a=>a≠fa/\a≠le) H7 ys (L2.without n (rest.take i))) ⟨none,rfl,ag,aF hle,.nil⟩ (fun i ys τ H7 ⟨_,_,z1,z2,_⟩=>⟨z1,aj.of (z2 _ _ Ds)⟩) ?_ ?_
       ·rintro i x ys τ H7 hx ⟨t0,rfl,h7,S7,xB⟩
        obtain⟨a,r,rfl,gD,_,fV⟩:=r6 Hf hx
        have aS:i < lv.length:=(b9.mp hx).1
        have tk:rest.take (i+1)=rest.take i ++ [r]:=by rw[dz,gD];rfl
        have xy:=j8 gD
        have Du:=S7 _ _ fV
        have Oy:=S7 _ _ h6
        refine⟨_,rfl,a,rfl,⟨_,aj.of Du⟩,fun b1 gB=>?_⟩
        have Ha:a≠b1:=ao Du gB
        have Hg:pc≠b1:=ao Oy gB
        have zW:b1≠le:=aO (ao h7 gB)
        have nbf:b1≠fa:=aO (ao (S7 _ _ y9) gB)
        refine iV (xs:=r.map V.str) (fun j zs gA H8=>∃t1:Option V,gA = [t1,some (.ref pc)]/\zs=((r.take j).filter fun y=>!decide (y=n)).map V.str/\H8=upd H7 b1 (.lst zs)) ⟨none,rfl,rfl,rfl⟩ (fun j zs gA H8 ⟨_,_,_,z⟩=>by rw[z];exact⟨ag,aj.of (by rw[ah Ha];exact Du)⟩) ?_ ?_
        ·rintro j x zs gA H8 eI ⟨t1,rfl,rfl,rfl⟩
         have b6:j < (r.map V.str).length:=(b9.mp eI).1
         have gn:j < r.length:=by simpa using b6
         obtain rfl:V.str r[j]=x:=by simpa [gn] using eI
         have jJ:r.take (j+1)=r.take j ++ [r[j]]:=by rw[dz,br gn];rfl
         refine⟨_,rfl,_,rfl,pc,_,0,.str n,rfl,rfl,aj.of (by rw[ah Hg];exact Oy),jG,rfl,_,rfl,?_⟩
         refine eF (fun bc=>?_) (fun bc=>?_)
         ·have i5:r[j]≠n:=fun z=>by rw[z]at bc;simp at bc
          refine⟨_,rfl,ag,?_,cw_next b6 ⟨_,rfl,?_,by rw[jo]⟩⟩
          ·have h1:=gP (fun y=>!decide (y=n)) (r.take j)
           have h2:(r.take j).length<=r.length:=by rw[dq];omega
           have h3:=R.sm.short r xy
           rw[aE,aI];omega
          ·rw[jJ,ji,bV,pQ (by simpa using i5)];rfl
         ·have hy:r[j]=n:=by
           by_cases z:r[j]=n
           ·exact z
           ·exact absurd (by simp[z]) bc
          refine cw_next b6 ⟨_,rfl,?_,rfl⟩
          rw[jJ];simp[hy]
        ·rintro zs gA H8 ⟨t1,rfl,rfl,rfl⟩
         rw[aE,d5]
         have Sb:=aF (o:= .lst ((r.filter fun y=>!decide (y=n)).map V.str)) gB
         refine⟨Sb _ _ h7,?_,cw_next aS ⟨_,rfl,ag,fun b o hb=>?_,?_⟩⟩
         ·have h1:=pS xB
          have h2:(L2.without n (rest.take i)).length<=rest.length:=by unfold L2.without;rw[aE,dq];omega
          have h3:=R.sm.bb
          rw[aI];omega
         ·rw[ah (ao hb hle)];exact Sb _ _ (S7 b o hb)
         ·have e1:L2.without n (rest.take (i+1))=L2.without n (rest.take i) ++ [r.filter fun y=>!decide (y=n)]:=by rw[tk];unfold L2.without;rw[bV];rfl
          rw[e1]
          refine yo (nR xB fun b xs nb hb=>⟨nb,by rw[ah nb.2];exact Sb _ _ hb⟩) ⟨nbf,zW⟩ ?_
          rw[ah zW];exact ag
       ·rintro ys τ H7 ⟨t0,rfl,h7,S7,xB⟩
        rw[pS Hf,d5]at xB
        refine⟨_,by rw[R.mm];exact lt,L2.without n rest,ys,acc ++ [n],le,⟨_,rfl⟩,rfl,h7,nR xB fun b xs nb hb=>⟨nb.1,hb⟩,nle,S7 _ _ y9,Kl R.sm,KY R.nd,QL.trans S7,?_,?_⟩
        ·have:=R.lim;rw[c9,j9];omega
        ·rw[R.eq,Bm hA e,Option.map_map]
         congr 1
         funext z
         simp
    ·refine⟨_,rfl,qs acc ?_ fa H3 tL QH tM⟩
     rw[R.eq,Bj (by simpa using hA)]
     show some (acc ++ [])=some acc
     rw[eV]
end
end aX
namespace aX
open PySem L2 PySem.W HT
theorem VZ {K:Frag}{a d p:Addr}{ps:List Str}{kvs:List (Key×V)}{g:Str->V}{H:Hp}{Q:VK} (ha:H a=some (.tup (ps.map V.str))) (hd:H d=some (.dK kvs)) (hg:∀x∈ps,cb kvs (Sum.inr x)=some (g x)) (hp:H p=none) (hs:ps.length<=100)
  (q:Q (.ref p) (upd H p (.lst (ps.map g)))):ju (nh K a) (mJ 0) vO (CF (iZ 1) (iZ 0)) [none,some (.ref d)] Q p H:=by
 have xC:a≠p:=ao ha hp
 have lZ:d≠p:=ao hd hp
 refine mq (xs:=ps.map V.str) (fun j zs τ H2=>∃t1:Option V,τ = [t1,some (.ref d)]/\zs=(ps.take j).map g/\H2=upd H p (.lst zs)) ⟨none,rfl,rfl,rfl⟩ (fun j zs τ H2 ⟨_,_,_,z⟩=>by rw[z];exact⟨ag,aJ.of (by rw[ah xC];exact ha)⟩) ?_ ?_
 ·rintro j x zs τ H2 hx ⟨t1,rfl,rfl,rfl⟩
  have b6:j < (ps.map V.str).length:=(b9.mp hx).1
  have gn:j < ps.length:=by simpa using b6
  obtain rfl:V.str ps[j]=x:=by simpa [gn] using hx
  have jJ:ps.take (j+1)=ps.take j ++ [ps[j]]:=by rw[dz,br gn];rfl
  refine⟨_,rfl,_,rfl,d,g ps[j],rfl,?_,ag,?_,cw_next b6 ⟨_,rfl,?_,by rw[jo]⟩⟩
  ·rw[<-hg _ (iT gn)];exact gJ.k (k:=Sum.inr ps[j]) (by rw[ah lZ];exact hd)
  ·rw[aE,dq,aI];omega
  ·rw[jJ,bV];rfl
 ·rintro zs τ H2 ⟨t1,rfl,rfl,rfl⟩
  rw[aE,d5]
  exact q
theorem V0 {K:Frag}{a d p:Addr}{ps:List Str}{kvs:List (Key×V)}{g:Str->V}{H:Hp}{Q:VK} (ha:H a=some (.lst (ps.map V.str))) (hd:H d=some (.dK kvs)) (hg:∀x∈ps,cb kvs (Sum.inr x)=some (g x)) (hp:H p=none) (hs:ps.length<=100)
  (q:Q (.ref p) (upd H p (.lst (ps.map g)))):ju (oO K a) (mJ 0) vO (CF (iZ 1) (iZ 0)) [none,some (.ref d)] Q p H:=by
 have xC:a≠p:=ao ha hp
 have lZ:d≠p:=ao hd hp
 refine iV (xs:=ps.map V.str) (fun j zs τ H2=>∃t1:Option V,τ = [t1,some (.ref d)]/\zs=(ps.take j).map g/\H2=upd H p (.lst zs)) ⟨none,rfl,rfl,rfl⟩ (fun j zs τ H2 ⟨_,_,_,z⟩=>by rw[z];exact⟨ag,aj.of (by rw[ah xC];exact ha)⟩) ?_ ?_
 ·rintro j x zs τ H2 hx ⟨t1,rfl,rfl,rfl⟩
  have b6:j < (ps.map V.str).length:=(b9.mp hx).1
  have gn:j < ps.length:=by simpa using b6
  obtain rfl:V.str ps[j]=x:=by simpa [gn] using hx
  have jJ:ps.take (j+1)=ps.take j ++ [ps[j]]:=by rw[dz,br gn];rfl
  refine⟨_,rfl,_,rfl,d,g ps[j],rfl,?_,ag,?_,cw_next b6 ⟨_,rfl,?_,by rw[jo]⟩⟩
  ·rw[<-hg _ (iT gn)];exact gJ.k (k:=Sum.inr ps[j]) (by rw[ah lZ];exact hd)
  ·rw[aE,dq,aI];omega
  ·rw[jJ,bV];rfl
 ·rintro zs τ H2 ⟨t1,rfl,rfl,rfl⟩
  rw[aE,d5]
  exact q
def rowsOf (L:Str->List Str) (ps:List Str):List (List Str):=ps.map L ++ [ps]
def lh (H:Hp) (kvs:List (Key×V)) (L:Str->List Str) (x:Str):Prop:= ∃a,cb kvs (Sum.inr x)=some (.ref a)/\H a=some (.tup ((L x).map V.str))
theorem lh.same {H H':Hp}{kvs:List (Key×V)}{L:Str->List Str}{x:Str} (h:lh H kvs L x) (s:ak H H'):lh H' kvs L x:=let ⟨a,e,q⟩:=h;⟨a,e,s _ _ q⟩
theorem XQ {H:Hp}{kvs:List (Key×V)}{L:Str->List Str}{ps:List Str} (h:∀x∈ps,lh H kvs L x):∃g:Str->V,(∀x∈ps,cb kvs (Sum.inr x)=some (g x))/\cY H (ps.map g) (ps.map L):=by
 refine⟨fun x=>(cb kvs (Sum.inr x)).getD .aD,fun x hx=>?_,?_⟩
 ·obtain⟨a,e,_⟩:=h x hx;show _=some ((cb kvs (Sum.inr x)).getD V.aD);rw[e];rfl
 ·induction ps with
  | nil=>exact .nil
  | cons x ps ih =>
   obtain⟨a,e,q⟩:=h x ba
   exact .cons ⟨a,by show(cb kvs (Sum.inr x)).getD V.aD=_;rw[e];rfl,q⟩ (ih fun y hy=>h y (bU _ hy))
section
variable {P : Program} {w : World} {K : Frag} {mg : Str -> Option Value} {base : Heap} {f : Addr} {fd : FuncData}
theorem BD:∀ {k:Nat}{rows:List (List Str)}{o:List Str},bw k rows=some o->o.length<=k
 | 0,_,_,h=>by cases h;exact aN _
 | k+1,rows,o,h=>by
  unfold bw at h
  split at h
  ·split at h
   ·cases h
   ·obtain⟨o',h',rfl⟩:=iS.mp h
    have:=BD h'
    rw[dZ];omega
  ·cases h;exact a4 _
theorem V1 {C t:Addr}{ws:List V}{rows:List (List Str)}{H:Hp}{Q:VK}{E:XK} (ht:H t=some (.tup ws)) (hR:cY H ws rows) (hS:Small rows)
  (qn:bw (total rows) rows=none -> ∀a d p vs H',H a=none->H d=none->H p=none->qk (Co rows) 10 (tf rows)->ak H H'->H' a=some (dJ (some .none) C (some d) a)->H' d=some (dv d [("kind", .aD),("ring", .ref p)])->H' p=some (.tup vs)->j4 H' vs (tf rows)->E (.ref C) (some a) H')
  (qs:∀o,bw (total rows) rows=some o -> ∀p H',H p=none->ak H H'->H' p=some (.tup (o.map V.str))->Q (.ref p) H'):sg C [.ref t] H Q E:=by
 unfold sg;exact⟨t,ws,rows,rfl,ht,hR,hS,qn,qs⟩
theorem WU {B:Addr} (F:aZ K "__init__" "Ring.__init__" ko f fd) (b:vB K B) (mB:mg "LineError" = some (.ref B)):vR P w K mg base 1 f fd ["self", "kind", "ring"] (lG K "kind" "ring"):=by
 refine F.okH M7 (fun vs H Q E h=>?_) (fun cdv A outer s H vs Q E hr h=>?_)
 ·unfold lG at h;obtain⟨a,C,k,r,i,rfl,_⟩:=h;rfl
 ·unfold lG at h
  obtain⟨a,C,k,r,i,rfl,ha,c,qi,fk,fr,nk,nr,q⟩:=h
  have hu:=hr.units
  have hg:=hr.gd
  refine⟨_,aC (fc (Kw b rfl mB (ae (pv 0) (ae (B7 (lz jq (lz (vA hu hg (pv 1)) (lz jq (lz (vA hu hg (pv 2)) Cj))))) ai))))
   (aC (Mq (pv 0) (pv 1)) (aM (LN (pv 0) (pv 2)))),?_⟩
  refine⟨_,rfl,⟨_,rfl,by decide +kernel⟩,_,rfl,fk,fun y1 wW=>⟨⟨_,rfl,wW⟩,⟨_,rfl,by decide +kernel⟩,_,rfl,fr,fun y2 wX=>⟨⟨_,rfl,wX⟩,fun y hy=>?_⟩⟩⟩
  refine⟨a,C,none,_,i,rfl,ha,c,qi,?_⟩
  refine⟨_,rfl,_,rfl,a,C,rfl,ha,c,nk,fun d hd lX=>?_⟩
  refine⟨_,rfl,_,rfl,a,C,d,_,rfl,ag,(by rw[ah lX];exact ag),c,nr,(by show 1 < 100;decide),?_⟩
  refine q d _ hd lX ?_ ag fun b o e n=>?_
  ·rw[ah (aO lX)];exact ag
  ·rw[ah (ao e hd)];exact L8 hd b o e n
theorem M' {H:Hp}:∀ {vs:List V}{W:List Wi}{v:V},j4 H vs W->v∈vs -> ∃w∈W,∃a,v=V.ref a/\H a=some (.tup [.int w.1,.str w.2.1,.str w.2.2])
 | _,_,_,.nil,h=>by cases h
 | _,w::_,_,.cons a b,h=>by
  rcases bq.mp h with rfl | z
  ·exact⟨w,ba,a⟩
  ·obtain⟨w2,h2,r⟩:=M' b z
   exact⟨w2,bU _ h2,r⟩
def oK (C:Addr) (H:Hp) (a:Addr):Prop:= ∃c C' d jF,H a=some (dJ (some (.ref c)) C (some d) a)/\(∃fs,H d=some (dv d fs))/\c≠a/\H c=some (dJ (some .none) C' jF c)
@[irreducible] def tN (C:Addr):Sp:=fun vs H Q E=>∃ (d pa:Addr) (kvs:List (Key×V)) (L:Str->List Str) (k:Str) (ps:List Str),vs = [.ref d,.str k,.ref pa]/\H d=some (.dK kvs)/\H pa=some (.tup (ps.map V.str))/\(∀x∈ps,lh H kvs L x)/\Small (rowsOf L ps)/\Nm k /\
 (bw (total (rowsOf L ps)) (rowsOf L ps)=none -> ∀a H',H a=none->ak H H'->oK C H' a->E (.ref C) (some a) H') /\ ∀o,bw (total (rowsOf L ps)) (rowsOf L ps)=some o -> ∀p H',ak H H'->H' p=some (.tup ((k::o).map V.str))->Q (.ref p) H'
theorem Zr {C d pa:Addr}{kvs:List (Key×V)}{L:Str->List Str}{k:Str}{ps:List Str}{H:Hp}{Q:VK}{E:XK} (hd:H d=some (.dK kvs)) (gm:H pa=some (.tup (ps.map V.str))) (hl:∀x∈ps,lh H kvs L x) (hS:Small (rowsOf L ps)) (hk:Nm k)
  (qn:bw (total (rowsOf L ps)) (rowsOf L ps)=none -> ∀a H',H a=none->ak H H'->oK C H' a->E (.ref C) (some a) H')
  (q:∀o,bw (total (rowsOf L ps)) (rowsOf L ps)=some o -> ∀p H',ak H H'->H' p=some (.tup ((k::o).map V.str))->Q (.ref p) H'):tN C [.ref d,.str k,.ref pa] H Q E:=by
 unfold tN;exact⟨d,pa,kvs,L,k,ps,rfl,hd,gm,hl,hS,hk,qn,q⟩
abbrev QM:List Str:= ["lines", "kind", "parents", "rows", "refusal"]
theorem Dv:bZ QM ["lines", "kind", "parents"] (ay nU):=⟨rfl,rfl,rfl,by decide +kernel,rfl,by decide +kernel,by decide +kernel⟩
def Oz (e:Expr):Expr:=match e with | .BinOp a _ _ _=>a | _=>.Constant .none 0 ⟨0,0,0,0⟩
abbrev eLF:Expr:=Oz (ig (eW (cw (aQ nU) 0)))
theorem OA:cf QM (ay nU) ["parent", "lines"] [none,some 0] (cR eLF):=⟨rfl,by decide +kernel,by decide +kernel,rfl,d7 (by decide +kernel),by decide +kernel⟩
theorem Zs {B C fI fM:Addr}{oX uE:FuncData} (F:aZ K "line_from" "line_from" nU f fd) (Bl:eK mg) (T:CL K mg B C fI oX) (me:mroIn K C (.ref C)=some true) (GM:aG P w K mg base (c8 P w) 3 fM uE ["rows"] (sg C)) (kM:keepIn K (.ref fM)=true) (bM:Binds K uE ["rows"] []) (mM:mg "merged" = some (.ref fM)) :
  aG P w K mg base (c8 P w) 4 f fd ["lines", "kind", "parents"] (tN C):=by
 have GI:vR P w K mg base 1 fI oX ["self", "kind", "ring"] (lG K "kind" "ring"):=WU T.F T.b T.mB
 refine F.ur Dv (fun vs H Q E h=>?_) (fun cdv A outer s H vs Q E hr h=>?_)
 ·unfold tN at h;obtain⟨d,pa,kvs,L,k,ps,rfl,_⟩:=h;rfl
 ·unfold tN at h
  obtain⟨d,pa,kvs,L,k,ps,rfl,hd,gm,hl,hS,hk,qn,q⟩:=h
  have hu:=hr.units
  have eu:=nP (nQ (show 1<=64 by decide) _) hu
  refine⟨_,aC (a9 (i:=3) Dv.nd rfl (Or.inl rfl) (fb j' rfl Bl.tuple boot_tuple (ae (cH qd (ff rfl OA (mr (pv 2)) (fun s H fp=>⟨a8 (i:=0) OA.nd rfl (Or.inl rfl),iC,nZ eu (pv 1) (pv 0) (fun _ _=>rfl)⟩)) (cQ (ae (pv 2) ai))) ai)))
   (aM (Wo (j:=4) rfl (fun pins D=>aM (bo (cH Mt (mw (ae (pv 1) ai)) (BR GM hr rfl mM kM bM (ae (pv 3) ai))))) Dv.nd rfl rfl rfl T.mC T.q
    (fun a=>Xx T.q T.fn T.kp GI ((hr.mono (by decide:2<=3)).marked _) T.bi aV rfl T.mC (ae (pv 1) (ae (Xt (pv 4)) ai))))),?_⟩
  obtain⟨g,hg,hR⟩:=XQ hl
  have cB:ps.length<=20:=hS.short ps (eU _ ba)
  refine⟨_,rfl,pa,rfl,⟨_,aJ.of gm⟩,fun c hc=>VZ gm hd hg hc (by omega) ?_⟩
  have S1:=aF (o:= .lst (ps.map g)) hc
  refine⟨_,rfl,by show 1<=sizeLine;rw[aI];decide,fun c2 gy=>?_⟩
  have S2:=S1.trans (aF (o:= .lst [V.ref pa]) gy)
  refine⟨c,c2,_,_,rfl,rfl,by rw[ah (ao ag gy)];exact ag,ag,by rw[aE,aI];show _+1<=_;omega,fun c3 Ag=>?_⟩
  have S3:=S2.trans (aF (o:= .lst (ps.map g ++ [V.ref pa])) Ag)
  refine⟨c3,_,rfl,.inl ⟨aj.of ag,fun r hr=>?_⟩⟩
  have S4:=S3.trans (aF (o:= .tup (ps.map g ++ [V.ref pa])) hr)
  refine⟨_,rfl,by show 1<=sizeLine;rw[aI];decide,fun c4 uu=>?_⟩
  have S5:=S4.trans (aF (o:= .tup [V.str k]) uu)
  refine⟨_,rfl,V1 (rows:=rowsOf L ps) (by rw[ah (ao ag uu)];exact ag) (cY.append (hR.same S5) (S5 _ _ gm)) hS (fun hm a dd p vs H6 ha0 zM hp0 rp S6 Ah hd6 z9 QN=>?_) (fun o hm m H6 hm6 S6 h6=>?_)⟩
  ·have Ai:=S5.trans S6
   refine⟨⟨C,rfl,me⟩,a,rfl,?_⟩
   refine⟨_,rfl,_,rfl,a,some .none,C,dd,_,.ref p,rfl,Ah,hd6,T.x,T.nr,rfl,by show 2<=100;decide,fun e he=>?_⟩
   have S7:=aF (o:=bJ C none e) he
   refine two_sp ag T.x T.q (.inl ⟨k,rfl,cK hk.hi (by decide)⟩) (KS (S7 _ _ z9) (fun v hv=>?_) ?_) T.nk T.nr fun d2 H7 hd2 rg h7a QO kp=>⟨rfl,?_⟩
   ·obtain⟨w',hw',aw,ew,hw⟩:=M' QN hv
    obtain⟨pre,post,er,mp,_⟩:=rp.at_ w' hw'
    have QP:=j8 er
    refine⟨aw,w'.1,_,_,ew,S7 _ _ hw,fZ (b9.mp er).1 hS.bb,hS.nm _ QP _ (eU _ ba),hS.nm _ QP _ (eU _ (bU _ mp))⟩
   ·rw[ll QN];exact cK rp.bb (by decide)
   ·have xD:e≠a:=fun z=>by rw[z,Ah]at he;cases he
    refine⟨e,C,some d2,some (.ref fI),C,some dd,rfl,h7a,fun d' ed=>by cases ed;exact⟨_,QO⟩,T.x,T.q,kp a _ (S7 _ _ Ah) (aO xD),xD,Ai.free he,?_⟩
    have aaX:d2≠e:=rg
    refine qn hm e _ (Ai.free he) (fun b o hb=>?_) ⟨a,C,d2,some dd,ag,⟨_,by rw[ah aaX];exact QO⟩,aO xD,by rw[ah (aO xD)];exact kp a _ (S7 _ _ Ah) (aO xD)⟩
    have QQ:b≠e:=ao (Ai _ _ hb) he
    rw[ah QQ]
    exact kp b o (S7 _ _ (Ai _ _ hb)) QQ
  ·have ol:o.length<=200:=cK (BD hm) (cK (u9 hS.short) (by have:=hS.bb;omega))
   refine⟨c4,m,_,_,rfl,rfl,S6 _ _ ag,h6,by rw[aE,aI];show 1+_<=_;omega,fun p H7 S7 h7=>?_⟩
   exact q o hm p H7 (S5.trans (S6.trans S7)) h7
end
end aX
namespace aX
open PySem L2 PySem.W HT
abbrev aK:=List (Str×List Str)
inductive cJ (aa:aK):Str->List Str->Prop where
 | mk {k:Str}{ps:List Str}{L:Str->List Str}{o:List Str}:(k,ps)∈aa->(∀x∈ps,cJ aa x (L x))->bw (total (rowsOf L ps)) (rowsOf L ps)=some o->cJ aa k (k::o)
structure bp (aa:aK):Prop where
 nd:(aa.map (·.1)).Nodup
 bb:aa.length<=15
 nm:∀p∈aa,Nm p.1
 up:∀p∈aa,∀x∈p.2,∃q∈aa,q.1=x
 four:∀p∈aa,p.2.length<=4
 j5:∀p∈aa,p.2.Nodup
theorem bp.key {aa:aK} (s:bp aa) {k:Str}{ps qs:List Str} (h:(k,ps)∈aa) (h':(k,qs)∈aa):ps=qs:=by
 have nd:=s.nd
 clear s
 induction aa with
 | nil=>cases h
 | cons p aa ih =>
  rw[cD,ix]at nd
  have no:∀ {rs},(k,rs)∈aa->p.1≠k:=fun hm e=>nd.1 (e ▸ bf.mpr ⟨_,hm,rfl⟩)
  rcases bq.mp h with z | z
  ·rcases bq.mp h' with z' | z'
   ·rw[<-z']at z;exact(Prod.mk.inj z).2
   ·exact absurd (by rw[<-z]) (no z')
  ·rcases bq.mp h' with z' | z'
   ·exact absurd (by rw[<-z']) (no z)
   ·exact ih z z' nd.2
theorem KZ {L L':Str->List Str}{ps:List Str} (h:∀x∈ps,L x=L' x):rowsOf L ps=rowsOf L' ps:=by
 unfold rowsOf;rw[AW h]
theorem cJ.uniq {aa:aK} (s:bp aa) {k:Str}{l:List Str} (h:cJ aa k l):∀ {l'},cJ aa k l'->l=l':=by
 induction h with
 | mk hm hx hg ih =>
  intro l' h'
  cases h' with
  | mk gZ eI z7 =>
   have e:=s.key hm gZ
   subst e
   have e:=KZ fun x lW=>ih x lW (eI x lW)
   rw[e,z7]at hg
   rw[gF hg]
theorem LD:∀ {k:Nat}{rows:List (List Str)}{o:List Str},bw k rows=some o->o.Nodup /\ ∀x∈o,∃r∈rows,x∈r
 | 0,_,_,h=>by cases h;exact⟨rG,fun x hx=>by cases hx⟩
 | k+1,rows,o,h=>by
  unfold bw at h
  split at h
  ·split at h
   ·cases h
   ·rename_i n hn
    obtain⟨o',h',rfl⟩:=iS.mp h
    obtain⟨nd,mem⟩:=LD h'
    have OB:∀x∈o',x≠n /\ ∃r∈rows,x∈r:=fun x hx=>by
     obtain⟨r,hr,rh⟩:=mem x hx
     obtain⟨r0,nF,rfl⟩:=bf.mp hr
     obtain⟨h1,h2⟩:=hV.mp rh
     exact⟨by simpa using h2,r0,nF,h1⟩
    refine⟨ix.mpr ⟨fun z=>(OB n z).1 rfl,nd⟩,fun x hx=>?_⟩
    rcases bq.mp hx with rfl | z
    ·obtain⟨r,hr,e⟩:=yl hn
     exact⟨r,hr,Uc e⟩
    ·exact(OB x z).2
  ·cases h;exact⟨rG,fun x hx=>by cases hx⟩
theorem XR {a b:List Str} (nd:a.Nodup) (h:∀x∈a,x∈b):a.length<=b.length:=Cn nd h
theorem cJ.mem {aa:aK} (s:bp aa) {k:Str}{l:List Str} (h:cJ aa k l):(∀x∈l,x∈aa.map (·.1))/\l.length<=16:=by
 induction h with
 | mk hm hx hg ih =>
  rename_i k ps L o
  obtain⟨nd,mem⟩:=LD hg
  have iM:∀x∈o,x∈aa.map (·.1):=fun x hxo=>by
   obtain⟨r,hr,rh⟩:=mem x hxo
   unfold rowsOf at hr
   rcases dk.mp hr with z | z
   ·obtain⟨y,hy,rfl⟩:=bf.mp z
    exact(ih y hy).1 x rh
   ·rw[eN.mp z]at rh
    obtain⟨q,hq,e⟩:=s.up _ hm x rh
    exact bf.mpr ⟨q,hq,e⟩
  have fl:=XR nd iM
  have:=s.bb
  rw[aE]at fl
  refine⟨fun x hx=>?_,by rw[dZ];omega⟩
  rcases bq.mp hx with rfl | z
  ·exact bf.mpr ⟨_,hm,rfl⟩
  ·exact iM x z
open Classical in
noncomputable def de (aa:aK) (k:Str):List Str:=if h:∃l,cJ aa k l then Classical.choose h else []
theorem cJ.line {aa:aK} (s:bp aa) {k:Str}{l:List Str} (h:cJ aa k l):de aa k=l:=by
 unfold de
 rw[dif_pos ⟨l,h⟩]
 exact cJ.uniq s (ali (⟨l,h⟩:∃l,cJ aa k l)) h
def Ln (aa:aK) (k:Str):Prop:=cJ aa k (de aa k)
theorem cJ.ln {aa:aK} (s:bp aa) {k:Str}{l:List Str} (h:cJ aa k l):Ln aa k:=by unfold Ln;rw[h.line s];exact h
def CN (aa:aK) (k:Str):Prop:= ∃ps,(k,ps)∈aa/\(∀x∈ps,Ln aa x)/\bw (total (rowsOf (de aa) ps)) (rowsOf (de aa) ps)=none
theorem CN.no {aa:aK} (s:bp aa) {k:Str} (h:CN aa k) : ¬ Ln aa k:=by
 obtain⟨ps,hm,hx,hg⟩:=h
 intro hl
 unfold Ln at hl
 cases e:de aa k with
 | nil=>rw[e]at hl;cases hl
 | cons a b =>
  rw[e]at hl
  cases hl with
  | mk gZ eI z7 =>
   have e2:=s.key hm gZ
   subst e2
   rw[KZ (fun x lW=>(eI x lW).line s),z7]at hg
   cases hg
theorem Zt {aa:aK} (s:bp aa) {k:Str}{ps o:List Str} (hm:(k,ps)∈aa) (hx:∀x∈ps,Ln aa x) (hg:bw (total (rowsOf (de aa) ps)) (rowsOf (de aa) ps)=some o):Ln aa k/\de aa k=k::o:=by
 have h:cJ aa k (k::o):= .mk hm hx hg
 exact⟨h.ln s,h.line s⟩
def eG (aa:aK):Prop:= ∀p∈aa,Ln aa p.1
theorem Vk {aa:aK} (s:bp aa) {k:Str}{ps:List Str} (hm:(k,ps)∈aa) (hx:∀x∈ps,Ln aa x):Small (rowsOf (de aa) ps):=by
 have f4:=s.four _ hm
 have iM:∀r∈rowsOf (de aa) ps,(∀x∈r,x∈aa.map (·.1))/\r.length<=20:=fun r hr=>by
  unfold rowsOf at hr
  rcases dk.mp hr with z | z
  ·obtain⟨y,hy,rfl⟩:=bf.mp z
   obtain⟨h1,h2⟩:=cJ.mem s (hx y hy)
   exact⟨h1,by omega⟩
  ·rw[eN.mp z]
   refine⟨fun x rh=>?_,by show ps.length<=20;have:ps.length<=4:=f4;omega⟩
   obtain⟨q,hq,e⟩:=s.up _ hm x rh
   exact bf.mpr ⟨q,hq,e⟩
 refine⟨?_,fun r hr=>(iM r hr).2,fun r hr x hx=>?_⟩
 ·unfold rowsOf;rw[c9,aE];show _+1<=10
  have:ps.length<=4:=f4
  omega
 ·obtain⟨q,hq,rfl⟩:=bf.mp ((iM r hr).1 x hx)
  exact s.nm q hq
theorem closed {aa:aK} (s:bp aa) {D:Str->Prop}{B:Str->Prop} (hB:∀k,B k -> ¬ Ln aa k) (hc:∀p∈aa,(∀x∈p.2,D x)->D p.1\/B p.1):∀ {k:Str}{l:List Str},cJ aa k l->D k:=by
 intro k l h
 induction h with
 | mk hm hx hg ih =>
  rcases hc _ hm ih with z | z
  ·exact z
  ·exact absurd ((cJ.mk hm hx hg).ln s) (hB _ z)
end aX
namespace aX
open PySem L2 PySem.W HT
theorem boot_all:bootBuiltins "all" = some (.builtin "all"):=by decide +kernel
theorem UW {X:Cx} (K:Frag) (h:X.K=K) (hc:X.calm=true):df X (.builtin "all") (fun xs H Q=>∃ (p:Addr) (bs:List Bool),xs = [.ref p]/\aj K H p (bs.map V.bl)/\Q (.bl (bs.all id)) H):=by subst h;exact yv hc
def bu (H:Hp) (vs:List V) (aa:List (Str×List Str)):Prop:=Paired (fun y p=>∃a b,y=V.ref a/\H a=some (.tup [.str p.1,.ref b])/\H b=some (.tup (p.2.map V.str))) vs aa
theorem bu.keep {H H':Hp}{vs:List V}{aa:List (Str×List Str)} (h:bu H vs aa) (s:∀b xs,H b=some (.tup xs)->H' b=some (.tup xs)):bu H' vs aa:=Paired.imp' (fun _ _ ⟨a,b,e,q,r⟩=>⟨a,b,e,s _ _ q,s _ _ r⟩) h
theorem bu.same {H H':Hp}{vs:List V}{aa:List (Str×List Str)} (h:bu H vs aa) (s:ak H H'):bu H' vs aa:=h.keep fun _ _ e=>s _ _ e
theorem bu.length {H:Hp}{vs:List V}{aa:List (Str×List Str)} (h:bu H vs aa):vs.length=aa.length:=ll h
theorem bu.append {H:Hp}{vs:List V}{aa:List (Str×List Str)}{a b:Addr}{p:Str×List Str}:bu H vs aa->H a=some (.tup [.str p.1,.ref b])->H b=some (.tup (p.2.map V.str))->bu H (vs ++ [.ref a]) (aa ++ [p])
 | .nil,q,r=>.cons ⟨a,b,rfl,q,r⟩ .nil
 | .cons x t,q,r=>.cons x (bu.append t q r)
theorem bu.pairs {H:Hp}{vs:List V}{aa:List (Str×List Str)} (h:bu H vs aa):∃kvs,lC H vs kvs/\kvs.map (·.1)=aa.map (·.1):=by
 induction h with
 | nil=>exact⟨[],.nil,rfl⟩
 | cons p _ ih =>
  obtain⟨a,b,e,q,r⟩:=p
  obtain⟨kvs,h1,h2⟩:=ih
  exact⟨(_,.ref b)::kvs,.cons ⟨a,e,q⟩ h1,by rw[cD,cD,h2]⟩
def isDone (kvs:List (Key×V)) (x:Str):Bool:=(cb kvs (Sum.inr x)).isSome
def ia (dn:Str->Bool) (rest:List (Str×List Str)):List (Str×List Str):=rest.filter fun p=>(p.2.map dn).all id
theorem LF {dn:Str->Bool}{rest:List (Str×List Str)}{p:Str×List Str}:p∈ia dn rest ↔ p∈rest /\ ∀x∈p.2,dn x=true:=by
 unfold ia
 rw[hV,List.all_map,pM];rfl
theorem K0 {α:Type} (f:α->Bool):∀l:List α,(l.filter f).length+(l.filter fun x=>!f x).length=l.length
 | []=>rfl
 | x::l=>by
  have ih:=K0 f l
  cases h:f x <;> simp[Ue,h] <;> omega
theorem V2 {dn Aj:Str->Bool}{rest:List (Str×List Str)} (h:∀p∈ia dn rest,Aj p.1=true):(rest.filter fun p=>!Aj p.1).length+(ia dn rest).length<=rest.length:=by
 have e:rest.length=(rest.filter fun p=>(p.2.map dn).all id).length+(rest.filter fun p=>!(p.2.map dn).all id).length:=by
  exact(K0 (fun p:Str×List Str=>(p.2.map dn).all id) rest).symm
 have le:(rest.filter fun p=>!Aj p.1).length<=(rest.filter fun p=>!(p.2.map dn).all id).length:=by
  rw[<-als,<-als]
  refine List.countP_mono_left fun p hp h1=>?_
  cases z:(p.2.map dn).all id with
  | false=>rfl
  | true =>
   have:=h p (hV.mpr ⟨hp,z⟩)
   rw[this]at h1;cases h1
 unfold ia
 omega
theorem WV {K:Frag}{a d p:Addr}{ps:List Str}{kvs:List (Key×V)}{H:Hp}{Q:VK} (ha:H a=some (.tup (ps.map V.str))) (hd:H d=some (.dK kvs)) (hp:H p=none) (hs:ps.length<=100)
  (q:Q (.ref p) (upd H p (.lst ((ps.map (isDone kvs)).map V.bl)))):ju (nh K a) (mJ 0) vO (N9 (iZ 0) (iZ 1)) [none,some (.ref d)] Q p H:=by
 have xC:a≠p:=ao ha hp
 have lZ:d≠p:=ao hd hp
 refine mq (xs:=ps.map V.str) (fun j zs τ H2=>∃t1:Option V,τ = [t1,some (.ref d)]/\zs=((ps.take j).map (isDone kvs)).map V.bl/\H2=upd H p (.lst zs)) ⟨none,rfl,rfl,rfl⟩ (fun j zs τ H2 ⟨_,_,_,z⟩=>by rw[z];exact⟨ag,aJ.of (by rw[ah xC];exact ha)⟩) ?_ ?_
 ·rintro j x zs τ H2 hx ⟨t1,rfl,rfl,rfl⟩
  have b6:j < (ps.map V.str).length:=(b9.mp hx).1
  have gn:j < ps.length:=by simpa using b6
  obtain rfl:V.str ps[j]=x:=by simpa [gn] using hx
  have jJ:ps.take (j+1)=ps.take j ++ [ps[j]]:=by rw[dz,br gn];rfl
  refine⟨_,rfl,_,rfl,d,_,rfl,gJ.k (k:=Sum.inr ps[j]) (by rw[ah lZ];exact hd),ag,?_,cw_next b6 ⟨_,rfl,?_,by rw[jo]⟩⟩
  ·rw[aE,aE,dq,aI];omega
  ·rw[jJ,bV,bV];rfl
 ·rintro zs τ H2 ⟨t1,rfl,rfl,rfl⟩
  rw[aE,d5]
  exact q
def vT (aa:List (Str×List Str)) (kvs:List (Key×V)):Prop:=(kvs.map (·.1)).Nodup /\ ∀k∈kvs.map (·.1),∃p∈aa,k=Sum.inr p.1
theorem LG (kvs:List (Key×V)) (k:Key) (v:V):(k∈kvs.map (·.1)/\(putK kvs k v).map (·.1)=kvs.map (·.1))\/(k ∉ kvs.map (·.1)/\(putK kvs k v).map (·.1)=kvs.map (·.1) ++ [k]):=by
 have e:(kvs.any fun kv=>decide (kv.1=k))=true ↔ k∈kvs.map (·.1):=by
  rw[pN,bf]
  exact⟨fun⟨x,h,d⟩=>⟨x,h,uZ d⟩,fun⟨x,h,d⟩=>⟨x,h,gO d⟩⟩
 unfold putK
 by_cases h:k∈kvs.map (·.1)
 ·refine .inl ⟨h,?_⟩
  rw[aA (e.mpr h),nO]
  refine AW fun kv _=>?_
  show(if kv.1=k then (kv.1,v) else kv).1=kv.1
  split <;> rfl
 ·refine .inr ⟨h,?_⟩
  rw[aq fun z=>h (e.mp z),bV];rfl
theorem WW {kvs:List (Key×V)}{k j:Key}{v:V}:j∈(putK kvs k v).map (·.1) ↔ j=k\/j∈kvs.map (·.1):=by
 rcases LG kvs k v with⟨h,e⟩|⟨h,e⟩
 ·rw[e];exact⟨.inr,fun z=>z.elim (fun e=>e ▸ h) id⟩
 ·rw[e,dk,eN];exact Or.comm
theorem XS {kvs:List (Key×V)}{k:Key}{v:V} (h:(kvs.map (·.1)).Nodup):((putK kvs k v).map (·.1)).Nodup:=by
 rcases LG kvs k v with⟨_,e⟩|⟨hn,e⟩
 ·rw[e];exact h
 ·rw[e,lr]
  exact⟨h,by simp,fun a ha b hb e=>hn (by rw[<-(eN.mp hb),<-e];exact ha)⟩
theorem vT.put {aa:List (Str×List Str)}{kvs:List (Key×V)}{p:Str×List Str}{v:V} (h:vT aa kvs) (hp:p∈aa):vT aa (putK kvs (Sum.inr p.1) v):=by
 refine⟨XS h.1,fun k hk=>?_⟩
 rcases WW.mp hk with z | z
 ·exact⟨p,hp,z⟩
 ·exact h.2 k z
theorem Nz {α:Type} [DecidableEq α]:∀ {a b:List α},a.Nodup->(∀x∈a,x∈b)->a.length<=b.length
 | [],b,_,_=>a4 _
 | x::a,b,nd,h=>by
  rw[ix]at nd
  have hx:=h x ba
  have:=Nz (b:=b.erase x) nd.2 fun y hy=>(akZ (fun e=>nd.1 (by rw[<-e];exact hy))).mpr (h y (bU _ hy))
  rw[akY hx]at this
  have:=TH hx
  rw[dZ];omega
def lN (aa:List (Str×List Str)):Prop:= ∀p∈aa,(∀x∈p.2,Ln aa x)->Ln aa p.1
structure za (H:Hp) (aa:List (Str×List Str)) (t d:Addr) (m:Nat) (σ:St) (H1:Hp) (kvs:List (Key×V)) (rest:List (Str×List Str)) (wv:List V) (wa:Addr):Prop where
 st:∃v3 v4 v5:Option V,σ = [some (.ref t),some (.ref d),some (.ref wa),v3,v4,v5]
 mm:m=rest.length
 hd:H1 d=some (.dK kvs)
 hw:H1 wa=some (.lst wv)
 fv:bu H1 wv rest
 sub:∀p∈rest,p∈aa
 all:∀p∈aa,isDone kvs p.1=true\/p∈rest
 ln:∀x,isDone kvs x=true->lh H1 kvs (de aa) x/\Ln aa x
 same:ak H H1
 lim:kvs.length+rest.length<=15
 ky:vT aa kvs
section
variable {P : Program} {w : World} {K : Frag} {mg : Str -> Option Value} {base : Heap} {f : Addr} {fd : FuncData}
@[irreducible] def n8 (C:Addr):Sp:=fun vs H Q E=>∃ (t:Addr) (ws:List V) (aa:List (Str×List Str)),vs = [.ref t]/\H t=some (.tup ws)/\bu H ws aa/\bp aa /\
 (¬ eG aa -> ∀a H',ak H H'->oK C H' a->E (.ref C) (some a) H') /\ ∀d kvs H',H d=none->ak H H'->H' d=some (.dK kvs)->lN aa->(eG aa -> ∀p∈aa,lh H' kvs (de aa) p.1)->Q (.ref d) H'
theorem BV {C t:Addr}{ws:List V}{aa:List (Str×List Str)}{H:Hp}{Q:VK}{E:XK} (ht:H t=some (.tup ws)) (hf:bu H ws aa) (ok:bp aa)
  (qn : ¬ eG aa -> ∀a H',ak H H'->oK C H' a->E (.ref C) (some a) H')
  (q:∀d kvs H',H d=none->ak H H'->H' d=some (.dK kvs)->lN aa->(eG aa -> ∀p∈aa,lh H' kvs (de aa) p.1)->Q (.ref d) H'):n8 C [.ref t] H Q E:=by unfold n8;exact⟨t,ws,aa,rfl,ht,hf,ok,qn,q⟩
theorem BW {H:Hp}{aa:List (Str×List Str)}{t d:Addr}{m:Nat}{σ:St}{H1:Hp}{kvs:List (Key×V)}{rest:List (Str×List Str)}{wv:List V}{wa:Addr} (R:za H aa t d m σ H1 kvs rest wv wa) (ok:bp aa) (no:∀p∈rest,¬ ∀x∈p.2,isDone kvs x=true) {x:Str} (h:Ln aa x):isDone kvs x=true:=by
 refine closed ok (D:=fun x=>isDone kvs x=true) (B:=fun _=>False) (fun _ z=>z.elim) (fun p hp hx=>?_) h
 rcases R.all p hp with z | z
 ·exact .inl z
 ·exact absurd hx (no p z)
theorem ML {H:Hp}{aa:List (Str×List Str)}{t d:Addr}{m:Nat}{σ:St}{H1:Hp}{kvs:List (Key×V)}{rest:List (Str×List Str)}{wv:List V}{wa:Addr} (R:za H aa t d m σ H1 kvs rest wv wa) (ok:bp aa) (no:∀p∈rest,¬ ∀x∈p.2,isDone kvs x=true):lN aa:=fun p hp hx=>by
 rcases R.all p hp with z | z
 ·exact(R.ln p.1 z).2
 ·exact absurd (fun x h=>BW R ok no (hx x h)) (no p z)
abbrev Hh:List Str:= ["family", "lines", "waiting", "ready", "kind", "parents"]
theorem qw:bZ Hh ["family"] (ay mz):=⟨rfl,rfl,rfl,by decide +kernel,rfl,by decide +kernel,by decide +kernel⟩
abbrev OC:Stmt:=cw (aQ mz) 2
abbrev Dw:Expr:=eW (cw (vf OC) 0)
abbrev aaY:Expr:=ig (M9 Dw)
abbrev aaZ:Expr:=eW (cw (vf OC) 3)
theorem NA:cf Hh (ay mz) ["pair", "lines"] [none,some 1] (cR Dw):=⟨rfl,by decide +kernel,by decide +kernel,rfl,d7 (by decide +kernel),by decide +kernel⟩
theorem Zu {env:Env}:cf ["pair", "lines"] (relabel (cR Dw) env) ["parent", "lines"] [none,some 1] (cR aaY):=nest rfl (by decide +kernel) (by decide +kernel) rfl (by decide +kernel) (by decide +kernel)
theorem Zv:(["parent", "lines"]:List Str).Nodup:=by decide +kernel
theorem NB:cf Hh (ay mz) ["pair", "lines"] [none,some 1] (cR aaZ):=⟨rfl,by decide +kernel,by decide +kernel,rfl,d7 (by decide +kernel),by decide +kernel⟩
theorem WX {C fF:Addr}{QR:FuncData} (F:aZ K "lines_of" "lines_of" mz f fd) (B:eK mg) (GF:aG P w K mg base (c8 P w) 4 fF QR ["lines", "kind", "parents"] (tN C)) (kF:keepIn K (.ref fF)=true) (bF:Binds K QR ["lines", "kind", "parents"] []) (mF:mg "line_from" = some (.ref fF)) :
  aG P w K mg base (c8 P w) 5 f fd ["family"] (n8 C):=by
 refine F.ur qw (fun vs H Q E h=>?_) (fun cdv A outer s H vs Q E hr h=>?_)
 ·unfold n8 at h;obtain⟨t,ws,aa,rfl,_⟩:=h;rfl
 ·unfold n8 at h
  obtain⟨t,ws,aa,rfl,ht,aa0,ok,qn,q⟩:=h
  have hu:=hr.units
  have eu:=nP (nQ (show 1<=64 by decide) _) hu
  refine⟨_,aC (a9 (i:=1) qw.nd rfl (Or.inr rfl) BO)
   (aC (a9 (i:=2) qw.nd rfl (Or.inl rfl) (fb u6 rfl B.list boot_list (ae (pv 0) ai)))
   (aC (vh Ke (pV (pv 2) (fun _=>rfl))
    (aC (rS rfl NA qw.nd (i:=3) rfl rfl (gG (pv 2)) (fun s H fp=>⟨a8 (i:=0) NA.nd rfl (Or.inl rfl),
      jl (ib (bx (UW K rfl rfl) rfl B.all boot_all (ae (ff rfl Zu (LO K rfl (cz (vj K rfl) (pv 0) aP (fun _ _=>rfl))) (fun s H fp=>⟨a8 (i:=0) Zv rfl (Or.inl rfl),iC,MT (M1 eu (pv 0) (pv 1))⟩)) ai))),
      pv 0⟩))
    (aC (cN (iX (pV (pv 3) (fun _=>rfl))) (aM (bo (pv 1))) cM)
    (aC (jr Ke rfl (gG (pv 3)) (sI rfl (gQ (a8 (i:=4) qw.nd rfl (Or.inl rfl)) (gQ (a8 (i:=5) qw.nd rfl (Or.inl rfl)) nY)))
     (aM (B9 eu (pv 1) (pv 4) (aR GF hr rfl mF kF bF .nil CG (ae (pv 1) (ae (pv 4) (ae (pv 5) ai)))) rfl)))
    (aM (rS rfl NB qw.nd (i:=2) rfl rfl (gG (pv 2)) (fun s H fp=>⟨a8 (i:=0) NB.nd rfl (Or.inl rfl),
      jl (Yb (VE eu (cz (vj K rfl) (pv 0) aP (fun _ _=>rfl)) (pv 1))),pv 0⟩)))))))
   (aM (bo (pv 1))))),?_⟩
  intro d hd
  have Sd:=aF (o:= .dK []) hd
  refine⟨_,rfl,t,ws,rfl,.inr (aJ.of (Sd _ _ ht)),fun wa uA=>?_⟩
  have Sw:=Sd.trans (aF (o:= .lst ws) uA)
  have nwd:d≠wa:=ao ag uA
  refine⟨fun m σ H1=>∃kvs rest wv wa,za H aa t d m σ H1 kvs rest wv wa,⟨_,[],aa,ws,wa,⟨none,none,none,rfl⟩,rfl,by rw[ah nwd];exact ag,ag,aa0.same Sw,fun _ h=>h,fun _ h=>.inr h,fun x h=>(by cases h),Sw,by have:=ok.bb;rw[yb];omega,⟨rG,fun _ h=>(by cases h)⟩⟩,?_⟩
  rintro m σ H1 ⟨kvs,rest,wv,wa,R⟩
  obtain⟨v3,v4,v5,rfl⟩:=R.st
  have xE:=R.fv.length
  refine⟨_,rfl,_,.inl ⟨_,aj.of R.hw,rfl⟩,?_⟩
  refine eF (fun bc=>?_) (fun bc=>?_)
  ·refine⟨fun aH H'=>∃m',m' < m /\ ∃kvs rest wv wa,za H aa t d m' aH H' kvs rest wv wa,fun _ _ z=>z,?_⟩
   refine⟨_,rfl,wa,rfl,⟨_,aj.of R.hw⟩,fun ra Hi=>?_⟩
   have QS:∀ {b:Addr}{u:HO},H b=some u->b≠d:=fun e=>ao e hd
   have ndr:d≠ra:=ao R.hd Hi
   refine iV (xs:=wv) (fun i ys τ H3=>∃t0:Option V,τ = [t0,some (.ref d)]/\H3 ra=some (.lst ys)/\ak H1 H3/\bu H3 ys (ia (isDone kvs) (rest.take i))) ⟨none,rfl,ag,aF Hi,.nil⟩ (fun i ys τ H3 ⟨_,_,z1,z2,_⟩=>⟨z1,aj.of (z2 _ _ R.hw)⟩) ?_ ?_
   ·rintro i x ys τ H3 hx ⟨t0,rfl,h3,S3,F3⟩
    have aS:i < wv.length:=(b9.mp hx).1
    obtain⟨p,hp,a,b,rfl,ha,hb⟩:=jR R.fv hx
    have tk:rest.take (i+1)=rest.take i ++ [p]:=by rw[dz,hp];rfl
    have pj:=R.sub p (j8 hp)
    have cB:p.2.length<=20:=cK (ok.four p pj) (by decide)
    have o6:=S3 _ _ ha
    have Ak:=S3 _ _ hb
    refine⟨_,rfl,a,_,1,.ref b,rfl,rfl,aJ.of o6,(show ee [V.str p.1,V.ref b] ((1:Nat):Int)=some (.ref b) from eO rfl),?_⟩
    refine⟨b,rfl,⟨_,aJ.of Ak⟩,fun c hc=>WV Ak (S3 _ _ R.hd) hc (by omega) ?_⟩
    have Sc:=aF (o:= .lst ((p.2.map (isDone kvs)).map V.bl)) hc
    refine⟨c,_,rfl,aj.of ag,_,rfl,?_⟩
    refine eF (fun zN=>?_) (fun zN=>?_)
    ·refine⟨_,rfl,Sc _ _ h3,?_,cw_next aS ⟨_,rfl,ag,fun b o hb=>by rw[ah (ao hb Hi)];exact Sc _ _ (S3 b o hb),?_⟩⟩
     ·have h1:=F3.length
      have h2:(ia (isDone kvs) (rest.take i)).length<=(rest.take i).length:=gP _ _
      have h3:=R.lim
      rw[dq]at h2
      rw[aI];omega
     ·have e1:ia (isDone kvs) (rest.take (i+1))=ia (isDone kvs) (rest.take i) ++ [p]:=by
       rw[tk];unfold ia;rw[ji,pQ (by exact zN)];rfl
      rw[e1]
      refine bu.append (F3.keep fun b xs hb=>?_) ?_ ?_ (b:=b)
      ·rw[ah (b7 hb h3 (by intro z;cases z))];exact Sc _ _ hb
      ·rw[ah (b7 o6 h3 (by intro z;cases z))];exact Sc _ _ o6
      ·rw[ah (b7 Ak h3 (by intro z;cases z))];exact Sc _ _ Ak
    ·refine cw_next aS ⟨_,rfl,Sc _ _ h3,S3.trans Sc,?_⟩
     have e1:ia (isDone kvs) (rest.take (i+1))=ia (isDone kvs) (rest.take i):=by
      rw[tk];unfold ia;rw[ji,rL (by exact zN)];simp
     rw[e1]
     exact F3.same Sc
   ·rintro rv τ H3 ⟨t0,rfl,h3,S3,F3⟩
    rw[xE,d5]at F3
    have jH:=F3.length
    have oY:=S3 _ _ R.hd
    have QT:=S3 _ _ R.hw
    have eJ:bu H3 wv rest:=R.fv.same S3
    have i5:rest ≠ []:=fun z=>by
     rw[z]at xE
     have:wv = []:=Kf xE
     rw[this]at bc;cases bc
    generalize ui:ia (isDone kvs) rest=ready at F3 jH
    refine⟨_,rfl,_,.inl ⟨_,aj.of h3,rfl⟩,?_⟩
    by_cases Hj:ready = []
    ·have e:rv = []:=Kf (by rw[jH,Hj];rfl)
     rw[e]
     have no:∀p∈rest,¬ ∀x∈p.2,isDone kvs x=true:=fun p hp hx=>?no
     exact⟨_,rfl,q d kvs H3 hd (R.same.trans S3) oY (ML R ok no) fun al p hp=>(R.ln _ (BW R ok no (al p hp))).1.same S3⟩
     have:p∈ia (isDone kvs) rest:=LF.mpr ⟨hp,hx⟩
     rw[ui,Hj]at this;cases this
    obtain⟨p0,nF⟩:=List.exists_mem_of_ne_nil _ Hj
    have aa1:(!rv.isEmpty)=true:=by
     cases rv with
     | nil =>
      have:ready = []:=Kf jH.symm
      rw[this]at nF;cases nF
     | cons _ _=>rfl
    rw[aa1]
    refine⟨_,rfl,ra,rfl,⟨_,aj.of h3⟩,yA (xs:=rv) (fun i σ H4=>∃ (dw:List (Key×V)) (v4 v5:Option V),σ = [some (.ref t),some (.ref d),some (.ref wa),some (.ref ra),v4,v5]/\H4 d=some (.dK dw)/\dw.length<=kvs.length+i /\
     (∀b u,b≠d->H3 b=some u->H4 b=some u)/\(∀x,isDone dw x=true->lh H4 dw (de aa) x/\Ln aa x)/\(∀x,isDone kvs x=true->isDone dw x=true)/\(∀p∈ready.take i,isDone dw p.1=true)/\vT aa dw)
     ⟨kvs,v4,v5,rfl,oY,aN _,fun _ _ _ e=>e,fun x hx=>⟨(R.ln x hx).1.same S3,(R.ln x hx).2⟩,fun _ h=>h,fun p hp=>(by cases hp),R.ky⟩ (fun i σ H4 _ ⟨_,_,_,_,_,_,z,_⟩=>aj.of (z _ _ (aO ndr) h3)) ?_ ?_⟩
    ·rintro i x σ H4 hx ⟨dw,v4,v5,rfl,pq,oZ,hU,uF,jE,Al,Hk⟩
     have aS:i < rv.length:=(b9.mp hx).1
     obtain⟨p,hp,a,b,rfl,ha,hb⟩:=jR F3 hx
     have tk:ready.take (i+1)=ready.take i ++ [p]:=by rw[dz,hp];rfl
     have hpr:p∈ia (isDone kvs) rest:=by rw[ui];exact j8 hp
     obtain⟨pj,uD⟩:=LF.mp hpr
     have jc:=R.sub p pj
     have Hl:∀x∈p.2,Ln aa x:=fun x hx=>(uF x (jE x (uD x hx))).2
     have xF:=Vk ok (k:=p.1) (ps:=p.2) jc Hl
     have aa2:ak H H4:=fun b u e=>hU b u (QS e) (S3 _ _ (R.same b u e))
     have ha4:=hU _ _ (b7 ha oY (by intro z;cases z)) ha
     have hb4:=hU _ _ (b7 hb oY (by intro z;cases z)) hb
     refine⟨a,_,rfl,aJ.of ha4,rfl,_,_,rfl,_,_,rfl,rfl,?_⟩
     refine⟨_,rfl,_,rfl,_,rfl,Zr (L:=de aa) pq hb4 (fun x hx=>(uF x (jE x (uD x hx))).1) xF (ok.nm p jc) (fun hg a H5 ha0 S5 h5=>qn (fun al=>CN.no ok ⟨p.2,jc,Hl,hg⟩ (al p jc)) a H5 (aa2.trans S5) h5) fun oo qN q5 H5 S5 h5=>?_⟩
     obtain⟨hLn,hL⟩:=Zt ok (k:=p.1) (ps:=p.2) jc Hl qN
     refine⟨_,rfl,_,rfl,d,_,rfl,qt.k (k:=Sum.inr p.1) (S5 _ _ pq) ?_,?_⟩
     ·have h1:=R.lim
      have h2:ready.length<=rest.length:=by rw[<-ui];exact gP _ _
      rw[aI];omega
     ·have nq:q5≠d:=b7 h5 (S5 _ _ pq) (by intro z;cases z)
      refine⟨_,_,_,rfl,ag,?_,fun b u nb e=>?_,fun x hx=>?_,fun x hx=>?_,fun y hy=>?_,Hk.put (R.sub p pj)⟩
      ·have:=A7 dw (Sum.inr p.1) (V.ref q5);omega
      ·rw[ah nb];exact S5 _ _ (hU b u nb e)
      ·unfold lh
       rw[vk]
       by_cases e:x=p.1
       ·subst e
        refine⟨⟨q5,by rw[aA rfl],?_⟩,hLn⟩
        rw[ah nq,hL];exact h5
       ·have e2 : ¬ ((Sum.inr x:Key)=Sum.inr p.1):=fun z=>e (xY z)
        have eI:isDone dw x=true:=by unfold isDone at hx ⊢;rw[vk,aq e2]at hx;exact hx
        obtain⟨⟨a',ea,QU⟩,w9⟩:=uF x eI
        refine⟨⟨a',by rw[aq e2];exact ea,?_⟩,w9⟩
        rw[ah (b7 QU pq (by intro z;cases z))];exact S5 _ _ QU
      ·unfold isDone;rw[vk]
       split
       ·rfl
       ·exact jE x hx
      ·unfold isDone;rw[vk]
       split
       ·rfl
       ·rename_i hn
        rw[tk]at hy
        rcases dk.mp hy with z | z
        ·exact Al _ z
        ·have:y=p:=by simpa using z
         exact absurd (by rw[this]) hn
    ·rintro σ H4 ⟨dw,v4,v5,rfl,pq,oZ,hU,uF,jE,Al,Hk⟩
     rw[jH,d5]at Al
     have hf4:bu H4 wv rest:=eJ.keep fun b xs e=>hU _ _ (b7 e oY (by intro z;cases z)) e
     have QV:=hU _ _ (b7 QT oY (by intro z;cases z)) QT
     have SH4:ak H H4:=fun b u e=>hU b u (QS e) (S3 _ _ (R.same b u e))
     refine⟨_,rfl,wa,rfl,⟨_,aj.of QV⟩,fun wb Hm=>?_⟩
     have nwb:d≠wb:=ao pq Hm
     refine iV (xs:=wv) (fun i ys τ H5=>∃t0:Option V,τ = [t0,some (.ref d)]/\H5 wb=some (.lst ys)/\ak H4 H5/\bu H5 ys ((rest.take i).filter fun p=>!isDone dw p.1)) ⟨none,rfl,ag,aF Hm,.nil⟩ (fun i ys τ H5 ⟨_,_,z1,z2,_⟩=>⟨z1,aj.of (z2 _ _ QV)⟩) ?_ ?_
     ·rintro i x ys τ H5 hx ⟨t0,rfl,h5,S5,F5⟩
      have aS:i < wv.length:=(b9.mp hx).1
      obtain⟨p,hp,a,b,rfl,ha,hb⟩:=jR hf4 hx
      have tk:rest.take (i+1)=rest.take i ++ [p]:=by rw[dz,hp];rfl
      have Hn:=S5 _ _ ha
      have QW:=S5 _ _ hb
      refine⟨_,rfl,a,_,0,.str p.1,rfl,rfl,aJ.of Hn,(show ee [V.str p.1,V.ref b] ((0:Nat):Int)=some (.str p.1) from eO rfl),?_⟩
      refine⟨_,rfl,d,_,rfl,gJ.k (k:=Sum.inr p.1) (S5 _ _ pq),_,rfl,?_⟩
      refine eF (fun bg=>?_) (fun bg=>?_)
      ·refine⟨_,rfl,h5,?_,cw_next aS ⟨_,rfl,ag,fun b o hb=>by rw[ah (ao hb Hm)];exact S5 b o hb,?_⟩⟩
       ·have h1:=F5.length
        have h2:=gP (fun p:Str×List Str=>!isDone dw p.1) (rest.take i)
        have h3:=R.lim
        rw[dq]at h2
        rw[aI];omega
       ·rw[tk,ji,pQ (by exact bg)]
        refine bu.append (F5.keep fun b xs hb=>?_) ?_ ?_ (b:=b)
        ·rw[ah (b7 hb h5 (by intro z;cases z))];exact hb
        ·rw[ah (b7 Hn h5 (by intro z;cases z))];exact Hn
        ·rw[ah (b7 QW h5 (by intro z;cases z))];exact QW
      ·refine cw_next aS ⟨_,rfl,h5,S5,?_⟩
       rw[tk,ji,rL (by exact bg),List.filter_nil,eV]
       exact F5
     ·rintro ys τ H5 ⟨t0,rfl,h5,S5,F5⟩
      rw[xE,d5]at F5
      have less:=V2 (dn:=isDone kvs) (Aj:=isDone dw) (rest:=rest) (by rw[ui];exact Al)
      rw[ui]at less
      have hrp:0 < ready.length:=TH nF
      refine⟨_,by rw[R.mm];omega,dw,rest.filter fun p=>!isDone dw p.1,ys,wb,⟨_,_,_,rfl⟩,rfl,S5 _ _ pq,h5,F5,fun p hp=>R.sub p (hV.mp hp).1,fun p hp=>?_,fun x hx=>⟨(uF x hx).1.same S5,(uF x hx).2⟩,SH4.trans S5,?_,?_⟩
      ·cases e:isDone dw p.1 with
       | true=>exact .inl rfl
       | false =>
        refine .inr ?_
        rcases R.all p hp with z | z
        ·rw[jE _ z]at e;cases e
        ·exact hV.mpr ⟨z,by rw[e];rfl⟩
      ·have h1:=R.lim
       omega
      ·exact Hk
  ·have hn:rest = []:=by
    cases wv with
    | nil=>exact Kf xE.symm
    | cons _ _=>exact absurd rfl bc
   have no:∀p∈rest,¬ ∀x∈p.2,isDone kvs x=true:=fun p hp=>by rw[hn]at hp;cases hp
   exact⟨_,rfl,q d kvs H1 hd R.same R.hd (ML R ok no) fun al p hp=>(R.ln _ (BW R ok no (al p hp))).1⟩
end
end aX
namespace aX
open PySem L2 PySem.W HT
structure jz (mg:Str->Option Value):Prop where
 xG:mg "isinstance" = none
 str:mg "str" = none
 dict:mg "dict" = none
 sorted:mg "sorted" = none
theorem vn:bootBuiltins "isinstance" = some (.builtin "isinstance"):=by decide +kernel
theorem boot_str:bootBuiltins "str" = some (.type "str"):=by decide +kernel
theorem boot_dict:bootBuiltins "dict" = some (.type "dict"):=by decide +kernel
theorem boot_sorted:bootBuiltins "sorted" = some (.builtin "sorted"):=by decide +kernel
def eM (H:Hp) (kvs:List (Key×V)) (L:Str->List Str) (x:Str):Prop:= ∃a,cb kvs (Sum.inr x)=some (.ref a)/\H a=some (.lst ((L x).map V.str))
theorem eM.same {H H':Hp}{kvs:List (Key×V)}{L:Str->List Str}{x:Str} (h:eM H kvs L x) (s:ak H H'):eM H' kvs L x:=let ⟨a,e,q⟩:=h;⟨a,e,s _ _ q⟩
theorem XT {H:Hp}{kvs:List (Key×V)}{L:Str->List Str}{ps:List Str} (h:∀x∈ps,eM H kvs L x):∃g:Str->V,(∀x∈ps,cb kvs (Sum.inr x)=some (g x))/\iH (fun _=>True) H (ps.map g) (ps.map L):=by
 refine⟨fun x=>(cb kvs (Sum.inr x)).getD .aD,fun x hx=>?_,?_⟩
 ·obtain⟨a,e,_⟩:=h x hx;show _=some ((cb kvs (Sum.inr x)).getD V.aD);rw[e];rfl
 ·induction ps with
  | nil=>exact .nil
  | cons x ps ih =>
   obtain⟨a,e,q⟩:=h x ba
   exact .cons ⟨a,by show(cb kvs (Sum.inr x)).getD V.aD=_;rw[e];rfl,trivial,q⟩ (ih fun y hy=>h y (bU _ hy))
section
variable {P : Program} {w : World} {K : Frag} {mg : Str -> Option Value} {base : Heap} {f : Addr} {fd : FuncData}
theorem Zw {l:Addr}{ws:List V}{rows:List (List Str)}{H:Hp}{Q:VK}{E:XK} (hl:H l=some (.lst ws)) (hR:iH (fun _=>True) H ws rows) (hS:Small rows) (eY:∀r∈rows,r.Nodup) (qn:bw (total rows) rows=none -> ∀H',ak H H'->Q .aD H')
  (qs:∀o,bw (total rows) rows=some o -> ∀p H',H p=none->ak H H'->H' p=some (.lst (o.map V.str))->Q (.ref p) H'):tK [.ref l] H Q E:=by unfold tK;exact⟨l,ws,rows,rfl,hl,hR,hS,eY,qn,qs⟩
@[irreducible] def tO:Sp:=fun vs H Q _=>∃ (d oa:Addr) (kvs:List (Key×V)) (L:Str->List Str) (k:Str) (own:List Str),vs = [.ref d,.str k,.ref oa]/\H d=some (.dK kvs)/\H oa=some (.lst (own.map V.str))/\(∀x∈own,eM H kvs L x)/\Small (rowsOf L own)/\(∀r∈rowsOf L own,r.Nodup) /\
 (bw (total (rowsOf L own)) (rowsOf L own)=none -> ∀H',ak H H'->Q .aD H')/\(∀o,bw (total (rowsOf L own)) (rowsOf L own)=some o -> ∀p H',H p=none->ak H H'->H' p=some (.lst ((k::o).map V.str))->Q (.ref p) H')
theorem NC {d oa:Addr}{kvs:List (Key×V)}{L:Str->List Str}{k:Str}{own:List Str}{H:Hp}{Q:VK}{E:XK} (hd:H d=some (.dK kvs)) (ho:H oa=some (.lst (own.map V.str))) (hl:∀x∈own,eM H kvs L x) (hS:Small (rowsOf L own)) (eY:∀r∈rowsOf L own,r.Nodup)
  (qn:bw (total (rowsOf L own)) (rowsOf L own)=none -> ∀H',ak H H'->Q .aD H') (qs:∀o,bw (total (rowsOf L own)) (rowsOf L own)=some o -> ∀p H',H p=none->ak H H'->H' p=some (.lst ((k::o).map V.str))->Q (.ref p) H') :
  tO [.ref d,.str k,.ref oa] H Q E:=by unfold tO;exact⟨d,oa,kvs,L,k,own,rfl,hd,ho,hl,hS,eY,qn,qs⟩
abbrev QX:List Str:= ["_law_lines", "_law_kind", "_law_own", "_law_found"]
theorem OD:bZ QX ["_law_lines", "_law_kind", "_law_own"] (ay om):=⟨rfl,rfl,rfl,by decide +kernel,rfl,by decide +kernel,by decide +kernel⟩
abbrev eLL:Expr:=Oz (ig (eW (cw (aQ om) 0)))
theorem OE:cf QX (ay om) ["_law_one", "_law_lines"] [none,some 0] (cR eLL):=⟨rfl,by decide +kernel,by decide +kernel,rfl,d7 (by decide +kernel),by decide +kernel⟩
theorem Zx {fM:Addr}{uE:FuncData} (F:aZ K "_law_line" "_law_line" om f fd) (B:eK mg) (FM:aZ K "_law_merged" "_law_merged" jn fM uE) (bM:Binds K uE ["_law_rows"] []) (mM:mg "_law_merged" = some (.ref fM)) :
  aG P w K mg base aL 2 f fd ["_law_lines", "_law_kind", "_law_own"] tO:=by
 have GM:aG P w K mg base aL 1 fM uE ["_law_rows"] tK:=Zq FM B
 refine F.ok OD (fun vs H Q E h=>?_) (fun cdv A outer s H vs Q E hr h=>?_)
 ·unfold tO at h;obtain⟨d,oa,kvs,L,k,own,rfl,_⟩:=h;rfl
 ·unfold tO at h
  obtain⟨d,oa,kvs,L,k,own,rfl,hd,ho,hl,hS,eY,qn,qs⟩:=h
  have hu:=hr.units
  have eu:=nP (nQ (show 1<=64 by decide) _) hu
  refine⟨_,aC (a9 (i:=3) OD.nd rfl (Or.inl rfl) (aR GM hr rfl mM FM.kp bM .nil aV (ae (cH qd (ff rfl OE (gG (pv 2)) (fun s H fp=>⟨a8 (i:=0) OE.nd rfl (Or.inl rfl),iC,nZ eu (pv 1) (pv 0) (fun _ _=>rfl)⟩)) (cQ (ae (fb u6 rfl B.list boot_list (ae (pv 2) ai)) ai))) ai)))
   (aC (cN (cE vz (pv 3) iE (cP _)) (aM (bo iE)) cM)
   (aM (bo (cH qd (cQ (ae (pv 1) ai)) (pv 3))))),?_⟩
  obtain⟨g,hg,hR⟩:=XT hl
  have cB:own.length<=20:=hS.short own (eU _ ba)
  refine⟨_,rfl,oa,rfl,⟨_,aj.of ho⟩,fun c hc=>V0 ho hd hg hc (by omega) ?_⟩
  have S1:=aF (o:= .lst (own.map g)) hc
  refine⟨_,rfl,oa,_,rfl,.inl (aj.of (S1 _ _ ho)),fun c1 Am=>?_⟩
  have S2:=S1.trans (aF (o:= .lst (own.map V.str)) Am)
  refine⟨by show 1<=sizeLine;rw[aI];decide,fun c2 gy=>?_⟩
  have S3:=S2.trans (aF (o:= .lst [V.ref c1]) gy)
  have k1:upd (upd H c (.lst (own.map g))) c1 (.lst (own.map V.str)) c=some (.lst (own.map g)):=by rw[ah (ao ag Am)];exact ag
  refine⟨c,c2,_,_,rfl,rfl,by rw[ah (ao k1 gy)];exact k1,ag,by rw[aE,aI];show _+1<=_;omega,fun c3 Ag=>?_⟩
  have S4:=S3.trans (aF (o:= .lst (own.map g ++ [V.ref c1])) Ag)
  have k4:upd (upd (upd (upd H c (.lst (own.map g))) c1 (.lst (own.map V.str))) c2 (.lst [V.ref c1])) c3 (.lst (own.map g ++ [V.ref c1])) c1=some (.lst (own.map V.str)):=by
   have k2:upd (upd (upd H c (.lst (own.map g))) c1 (.lst (own.map V.str))) c2 (.lst [V.ref c1]) c1=some (.lst (own.map V.str)):=by rw[ah (ao ag gy)];exact ag
   rw[ah (ao k2 Ag)];exact k2
  refine Zw (rows:=rowsOf L own) ag (yo (nR hR fun a xs _ e=>⟨trivial,S4 _ _ e⟩) trivial k4) hS eY (fun e H5 S5=>?_) (fun o e p H5 hp S5 h5=>?_)
  ·exact⟨_,rfl,rfl,_,rfl,qn e H5 (S4.trans S5)⟩
  ·refine⟨_,rfl,rfl,_,rfl,?_⟩
   refine⟨_,rfl,by show 1<=sizeLine;rw[aI];decide,fun c5 QY=>?_⟩
   have S6:=S5.trans (aF (o:= .lst [V.str k]) QY)
   have hz:=(BD e)
   have ht:=u9 hS.short
   have hfw:=hS.bb
   refine⟨_,rfl,c5,p,_,_,rfl,rfl,ag,by rw[ah (ao h5 QY)];exact h5,by rw[aE,aI];show 1+_<=_;omega,fun c6 QZ=>?_⟩
   exact qs o e c6 _ (S4.free (S6.free QZ)) (S4.trans (S6.trans (aF QZ))) ag
end
end aX
namespace aX
open PySem L2 PySem.W HT
theorem Bo {α:Type}:∀ (l:List α) (k:Nat) (h:k < l.length),(l[k]::l.eraseIdx k).Perm l
 | [],k,h=>absurd h (AU _)
 | x::l,0,_=>uY _
 | x::l,k+1,h=>(List.Perm.swap _ _ _).trans ((Bo l k (alb h)).cons x)
theorem BE {α β:Type} (f:α->β):∀ (l:List α) (k:Nat),(l.map f).eraseIdx k=(l.eraseIdx k).map f
 | [],_=>rfl
 | _::_,0=>rfl
 | x::l,k+1=>eT (f x :: ·) (BE f l k)
theorem boot_min:bootBuiltins "min" = some (.builtin "min"):=by decide +kernel
theorem Zy {d:Int} (h0:0<=d) (h1:d < 7):∃v:Int,ee [V.int 0,.int 1,.int 1,.int 2,.int 2,.int 3,.int 4] d=some (.int v)/\0<=v/\v<=4:=by
 obtain⟨n,rfl⟩:=A0 h0
 match n,(show n < 7 by omega) with
 | 0,_=>exact⟨0,eO rfl,by decide,by decide⟩
 | 1,_=>exact⟨1,eO rfl,by decide,by decide⟩
 | 2,_=>exact⟨1,eO rfl,by decide,by decide⟩
 | 3,_=>exact⟨2,eO rfl,by decide,by decide⟩
 | 4,_=>exact⟨2,eO rfl,by decide,by decide⟩
 | 5,_=>exact⟨3,eO rfl,by decide,by decide⟩
 | 6,_=>exact⟨4,eO rfl,by decide,by decide⟩
theorem two_at {d a b m:Int} (h0:0<=d) (h1:d < 2) (ha:0<=a/\a < m) (hb:0<=b/\b < m):∃v:Int,ee [V.int a,.int b] d=some (.int v)/\0<=v/\v < m:=by
 obtain⟨n,rfl⟩:=A0 h0
 match n,(show n < 2 by omega) with
 | 0,_=>exact⟨a,eO rfl,ha⟩
 | 1,_=>exact⟨b,eO rfl,hb⟩
section
variable {P : Program} {w : World} {K : Frag} {mg : Str -> Option Value} {base : Heap} {f : Addr} {fd : FuncData}
@[irreducible] def tq:Sp:=fun vs H Q _=>∃ (p n:Addr) (ys:List Str),vs = [.ref p,.ref n]/\d9 p H/\p≠n/\H n=some (.lst (ys.map V.str))/\ys.length<=20 /\
 ∀ (l:Addr) (own rest:List Str) (H':Hp),H l=none->(own++rest).Perm ys->own.length<=4->bX p H H'->H' l=some (.lst (own.map V.str))->Q (.ref l) H'
theorem YE {p n:Addr}{ys:List Str}{H:Hp}{Q:VK}{E:XK} (hp:d9 p H) (rj:p≠n) (hn:H n=some (.lst (ys.map V.str))) (hl:ys.length<=20)
  (q:∀ (l:Addr) (own rest:List Str) (H':Hp),H l=none->(own++rest).Perm ys->own.length<=4->bX p H H'->H' l=some (.lst (own.map V.str))->Q (.ref l) H'):tq [.ref p,.ref n] H Q E:=by
 unfold tq;exact⟨p,n,ys,rfl,hp,rj,hn,hl,q⟩
abbrev aa3:List Str:= ["_law_pot_here", "_law_made", "_law_left", "_law_own", "_law_turn", "_law_at"]
theorem vU:bZ aa3 ["_law_pot_here", "_law_made"] (ay rX):=⟨rfl,rfl,rfl,by decide +kernel,rfl,by decide +kernel,by decide +kernel⟩
theorem YF {fD:Addr}{rb:FuncData} (F:aZ K "_law_parents" "_law_parents" rX f fd) (B:eK mg) (FD:aZ K "_law_digit" "_law_digit" oj fD rb) (bD:Binds K rb ["_law_pot_here", "_law_many"] []) (mD:mg "_law_digit" = some (.ref fD)) :
  aG P w K mg base aL 2 f fd ["_law_pot_here", "_law_made"] tq:=by
 have GD:aG P w K mg base aL 1 fD rb ["_law_pot_here", "_law_many"] lA:=BU FD
 refine F.ok vU (fun vs H Q E h=>?_) (fun cdv A outer s H vs Q E hr h=>?_)
 ·unfold tq at h;obtain⟨p,n,ys,rfl,_⟩:=h;rfl
 ·unfold tq at h
  obtain⟨p,n,ys,rfl,hp,rj,hn,hlen,q⟩:=h
  have cC:aT 1 _:=hr
  refine⟨_,aC (a9 (i:=2) vU.nd rfl (Or.inl rfl) (fb u6 rfl B.list boot_list (ae (pv 1) ai)))
   (aC (a9 (i:=3) vU.nd rfl (Or.inl rfl) (cQ ai))
   (aC (jr jM rfl (nT rfl B.range (ae (bx (Br rfl) rfl B.min boot_min (ae (bx iU rfl B.len hW (ae (pv 2) ai))
     (ae (cz gH (cQ (ae aP (ae aP (ae aP (ae aP (ae aP (ae aP (ae aP ai)))))))) (aR GD cC rfl mD FD.kp bD .nil aV (ae (pv 0) (ae aP ai))) (fun _ _=>rfl)) ai))) ai)) (a8 (i:=4) vU.nd rfl (Or.inl rfl))
    (aC (a9 (i:=5) vU.nd rfl (Or.inl rfl) (cz gH (cQ (ae (aR GD cC rfl mD FD.kp bD .nil aV (ae (pv 0) (ae (bx iU rfl B.len hW (ae (pv 2) ai)) ai)))
      (ae (cH MW (bx iU rfl B.len hW (ae (pv 2) ai)) aP) ai))) (aR GD cC rfl mD FD.kp bD .nil aV (ae (pv 0) (ae aP ai))) (fun _ _=>rfl)))
    (aM (fc (jt lu pO pP kc (pv 3)
     (ae (jt lu alu alv LL (pv 2) (ae (pv 5) ai)) ai))))))
   (aM (bo (pv 3))))),?_⟩
  refine⟨_,rfl,n,_,rfl,.inl (aj.of hn),fun la o7=>?_⟩
  refine⟨a4 _,fun fa eZ=>?_⟩
  have An:p≠la:=hp.ne o7
  have rm:la≠fa:=ao ag eZ
  have tL:H fa=none:=(aF o7).free eZ
  have lY:p≠fa:=hp.ne tL
  have P0:bX p H (upd (upd H la (.lst (ys.map V.str))) fa (.lst [])):=((bX.refl hp).new o7).new eZ
  have qv:(upd (upd H la (.lst (ys.map V.str))) fa (.lst [])) la=some (.lst (ys.map V.str)):=by rw[ah rm];exact ag
  have Dx:(upd (upd H la (.lst (ys.map V.str))) fa (.lst [])) fa=some (.lst []):=ag
  generalize upd (upd H la (.lst (ys.map V.str))) fa (.lst [])=H0 at P0 qv Dx ⊢
  refine⟨_,rfl,la,_,rfl,.inl (aj.of qv),?_⟩
  refine⟨by show 7<=sizeLine;rw[aI];decide,fun c hc=>?_⟩
  have Pc:=P0.new (o:= .lst [V.int 0,.int 1,.int 1,.int 2,.int 2,.int 3,.int 4]) hc
  refine⟨_,rfl,kh (p:=p) (m:=7) Pc.ok (by decide) (by decide) fun d H1 d0 d1 pz=>?_⟩
  have npc:p≠c:=P0.ok.ne hc
  obtain⟨v,hv,v0,v4⟩:=Zy d0 d1
  refine⟨c,_,d,.int v,rfl,rfl,aj.of (pz.kp _ _ ag (aO npc)),hv,?_⟩
  have P1:=Pc.trans pz
  have wt:H1 la=some (.lst (ys.map V.str)):=pz.kp _ _ (by rw[ah (ao qv hc)];exact qv) (aO An)
  have wu:H1 fa=some (.lst []):=pz.kp _ _ (by rw[ah (ao Dx hc)];exact Dx) (aO lY)
  refine⟨_,v,rfl,?_⟩
  rw[aE]
  obtain⟨N,hN,hN4,hNl⟩:∃N:Nat,(if v < (ys.length:Int) then v else (ys.length:Int))=N/\N<=4/\N<=ys.length:=by
   split
   ·exact⟨v.toNat,by omega,by omega,by omega⟩
   ·exact⟨ys.length,rfl,by omega,aN _⟩
  rw[hN]
  refine⟨(N:Int),rfl,by omega,by omega,rV (fun i σ H1=>∃ (zs ls:List Str) (v4 v5:Option V),σ = [some (.ref p),some (.ref n),some (.ref la),some (.ref fa),v4,v5]/\zs.length=i/\(zs++ls).Perm ys/\bX p H H1/\H1 la=some (.lst (ls.map V.str))/\H1 fa=some (.lst (zs.map V.str)))
   ⟨[],ys,none,none,rfl,rfl,uY _,P1,wt,wu⟩ ?_ ?_⟩
  ·rintro i σ H1 hi ⟨zs,ls,v4,v5,rfl,hz,hP,pa,wt,wu⟩
   have CO:=hP.length_eq
   rw[c9]at CO
   have qY:i < N:=by simpa using hi
   have Dn:0 < ls.length:=by omega
   refine⟨_,rfl,_,rfl,la,_,rfl,.inl (aj.of wt),?_⟩
   refine kh (p:=p) pa.ok (by rw[aE];omega) (by rw[aE];omega) fun d H2 d0 d1 pb=>?_
   have Dy:=pb.kp _ _ wt (aO An)
   have OF:=pb.kp _ _ wu (aO lY)
   rw[aE]at d1
   refine⟨_,rfl,la,_,rfl,.inl (aj.of Dy),_,1,rfl,rfl,?_⟩
   rw[aE]
   refine⟨by show 2<=sizeLine;rw[aI];decide,fun c2 gy=>?_⟩
   have Q0:=(pa.trans pb).new (o:= .lst [V.int d,.int ((ls.length:Int) - 1)]) gy
   have aa4:p≠c2:=pb.ok.ne gy
   refine⟨_,rfl,kh (p:=p) (m:=2) Q0.ok (by decide) (by decide) fun e H3 e0 e1 pe=>?_⟩
   obtain⟨v,hv,v0,v1⟩:=two_at (a:=d) (b:=(ls.length:Int) - 1) (m:=(ls.length:Int)) e0 e1 ⟨d0,d1⟩ ⟨by omega,by omega⟩
   have oJ:H3 la=some (.lst (ls.map V.str)):=pe.kp _ _ (by rw[ah (ao Dy gy)];exact Dy) (aO An)
   have tM:H3 fa=some (.lst (zs.map V.str)):=pe.kp _ _ (by rw[ah (ao OF gy)];exact OF) (aO lY)
   have P3:=Q0.trans pe
   refine⟨c2,_,e,.int v,rfl,rfl,aj.of (pe.kp _ _ ag (aO aa4)),hv,?_⟩
   have hd:v.toNat < ls.length:=by omega
   refine⟨_,rfl,.inl ⟨rfl,_,aj.of tM⟩,_,rfl,.inl ⟨rfl,_,aj.of oJ⟩,_,rfl,?_⟩
   refine⟨la,_,v,v.toNat,.str ls[v.toNat],rfl,rfl,oJ,by omega,by omega,AF v0 (by rw[aE];exact v1),by rw[f6,br hd];rfl,?_⟩
   have aa5:(upd H3 la (.lst ((ls.map V.str).eraseIdx v.toNat))) fa=some (.lst (zs.map V.str)):=by rw[ah (aO rm)];exact tM
   refine⟨fa,_,_,rfl,rfl,aa5,by rw[aE,aI];omega,?_⟩
   refine⟨zs ++ [ls[v.toNat]],ls.eraseIdx v.toNat,_,_,rfl,by rw[c9];simp[hz],?_,(P3.write o7 An).write tL lY,?_,?_⟩
   ·refine List.Perm.trans ?_ hP
    rw[uV]
    exact alw zs (Bo ls _ hd)
   ·rw[ah rm,ag,BE]
   ·rw[ag,bV];rfl
  ·rintro σ H1 ⟨zs,ls,v4,v5,rfl,hz,hP,pa,wt,wu⟩
   have xr:zs.length=N:=by simpa using hz
   exact⟨_,rfl,q fa zs ls H1 tL hP (by omega) pa wu⟩
end
end aX
namespace aX
open PySem L2 HT
def kept (rows:List (List Str)) (o:List Str):Bool:=rows.all fun r=>decide ((o.filter fun n=>decide (n∈r))=r)
theorem Bp {all:List (List Str)}{n:Str}:∀ {rest:List (List Str)},jm all rest=some n->cj 0 all n=none /\ ∃ (i:Nat) (r:List Str),rest[i]? = some r/\r.head? = some n /\ ∀ (j:Nat) (q:List Str) (y:Str),rest[j]? = some q->q.head? = some y->cj 0 all y=none->i<=j
 | [],h=>by cases h
 | []::rest,h=>by
  obtain⟨h1,i,r,e1,e2,e3⟩:=Bp (rest:=rest) h
  refine⟨h1,i+1,r,by simpa using e1,e2,fun j q y hj hq hy=>?_⟩
  cases j with
  | zero =>
   obtain rfl : []=q:=by simpa using hj
   simp at hq
  | succ j=>have:=e3 j q y (by simpa using hj) hq hy;omega
 | (x::t)::rest,h=>by
  have h:(if (cj 0 all x).isNone then some x else jm all rest)=some n:=h
  by_cases c:(cj 0 all x).isNone=true
  ·rw[aA c]at h
   cases h
   exact⟨by simpa using c,0,_,rfl,rfl,fun _ _ _ _ _ _=>a4 _⟩
  ·rw[aq c]at h
   obtain⟨h1,i,r,e1,e2,e3⟩:=Bp (rest:=rest) h
   refine⟨h1,i+1,r,by simpa using e1,e2,fun j q y hj hq hy=>?_⟩
   cases j with
   | zero =>
    obtain rfl:x::t=q:=by simpa using hj
    obtain rfl:x=y:=by simpa using hq
    exact absurd (by rw[hy];rfl) c
   | succ j=>have:=e3 j q y (by simpa using hj) hq hy;omega
def XU (rest:List (List Str)) (q:List Str):Prop:=q.Nodup /\ ∀x,x∈q ↔ ∃r∈rest,x∈r
theorem BX {rest:List (List Str)}{q:List Str}:kept rest q=true ↔ ∀r∈rest,(q.filter fun n=>decide (n∈r))=r:=by
 unfold kept;rw[pM];simp
theorem KA {n x:Str}{rest:List (List Str)}:(∃r∈L2.without n rest,x∈r) ↔ x≠n /\ ∃r∈rest,x∈r:=by
 constructor
 ·rintro⟨r,hr,hx⟩
  obtain⟨q,hq,rfl⟩:=bf.mp hr
  have:=hV.mp hx
  exact⟨by simpa using this.2,q,hq,this.1⟩
 ·rintro⟨h,q,hq,hx⟩
  exact⟨_,bf.mpr ⟨q,hq,rfl⟩,hV.mpr ⟨hx,by simpa using h⟩⟩
theorem XW {rest:List (List Str)}:(rest.any fun r=>!r.isEmpty)=true ↔ ∃r∈rest,∃x,x∈r:=by
 rw[pN]
 constructor
 ·rintro⟨r,hr,e⟩
  cases r with
  | nil=>simp at e
  | cons x t=>exact⟨_,hr,x,ba⟩
 ·rintro⟨r,hr,x,hx⟩
  refine⟨r,hr,?_⟩
  cases r with
  | nil=>simp at hx
  | cons y t=>rfl
theorem sound:∀ (m:Nat) (rest:List (List Str)),total rest=m->(∀r∈rest,r.Nodup) -> ∀o,bw (total rest) rest=some o->XU rest o/\kept rest o=true:=by
 intro m
 induction m using Nat.strongRecOn with
 | _ m ih =>
  intro rest hm eY o ho
  cases hA:rest.any fun r=>!r.isEmpty with
  | false =>
   rw[Bj hA]at ho
   cases ho
   have emp:∀r∈rest,∀x,x ∉ r:=fun r hr x hx=>by
    have:=XW.mpr ⟨r,hr,x,hx⟩
    rw[hA]at this;cases this
   refine⟨⟨rG,fun x=>⟨fun h=>by simp at h,fun⟨r,hr,hx⟩=>absurd hx (emp r hr x)⟩⟩,BX.mpr fun r hr=>?_⟩
   cases r with
   | nil=>rfl
   | cons y t=>exact absurd ba (emp _ hr y)
  | true =>
   cases e:d6 rest with
   | none=>rw[Bk hA e]at ho;cases ho
   | some n =>
    rw[Bm hA e]at ho
    obtain⟨o',gv,rfl⟩:=iS.mp ho
    have lt:=rM (rZ e)
    obtain⟨⟨h1,h2⟩,h3⟩:=ih _ (by omega) (L2.without n rest) rfl (KY eY) o' gv
    rw[BX]at h3
    have eP:n ∉ o':=fun z=>((KA.mp ((h2 n).mp z)).1 rfl)
    obtain⟨vK,_⟩:=Bp e
    rw[yy]at vK
    refine⟨⟨ix.mpr ⟨eP,h1⟩,fun x=>?_⟩,BX.mpr fun r hr=>?_⟩
    ·rw[bq,h2,KA]
     constructor
     ·rintro(rfl | h)
      ·exact rZ e
      ·exact h.2
     ·intro h
      by_cases z:x=n
      ·exact .inl z
      ·exact .inr ⟨z,h⟩
    ·have um:=h3 _ (bf.mpr ⟨r,hr,rfl⟩)
     have same:(o'.filter fun y=>decide (y∈r))=o'.filter fun y=>decide (y∈r.filter fun y=>!decide (y=n)):=by
      apply List.filter_congr
      intro y hy
      have:y≠n:=fun z=>eP (z ▸ hy)
      simp[this]
     by_cases hn:n∈r
     ·have hh:=vK r hr hn
      cases r with
      | nil=>simp at hn
      | cons z t =>
       obtain rfl:z=n:=by simpa using hh
       have ht:z ∉ t:=(ix.mp (eY _ hr)).1
       have et:((z::t).filter fun y=>!decide (y=z))=t:=by
        rw[rL (by simp)]
        exact Ub.mpr fun y hy=>by
         have:y≠z:=fun w=>ht (w ▸ hy)
         simpa using this
       rw[pQ (by simp),same,um,et]
     ·have er:(r.filter fun y=>!decide (y=n))=r:=Ub.mpr fun y hy=>by
       have:y≠n:=fun w=>hn (w ▸ hy)
       simpa using this
      rw[rL (by simpa using hn),same,um,er]
end aX
namespace aX
open PySem L2 PySem.W HT
theorem len_sub {a b:List Str} (nd:a.Nodup) (h:∀x∈a,x∈b):a.length<=b.length:=Nz nd h
structure Fm (done:List Str) (L Ps:Str->List Str):Prop where
 ps:∀x∈done,(Ps x).Nodup/\(Ps x).length<=4 /\ ∀y∈Ps x,y∈done
 ln:∀x∈done,∃o,bw (total (rowsOf L (Ps x))) (rowsOf L (Ps x))=some o/\L x=x::o
 ld:∀x∈done,(L x).Nodup /\ ∀y∈L x,y∈done
 od:∀i x,done[i]? = some x -> ∀y∈Ps x,y∈done.take i
theorem yr {L:Str->List Str}{own r:List Str}:r∈rowsOf L own ↔ (∃y∈own,r=L y)\/r=own:=by
 unfold rowsOf
 rw[dk,bf,eN]
 constructor
 ·rintro(⟨y,h,rfl⟩|h)
  ·exact .inl ⟨y,h,rfl⟩
  ·exact .inr h
 ·rintro(⟨y,h,rfl⟩|h)
  ·exact .inl ⟨y,h,rfl⟩
  ·exact .inr h
theorem Fm.qj {done:List Str}{L Ps:Str->List Str} (F:Fm done L Ps) {own:List Str} (nd:own.Nodup) (sub:∀y∈own,y∈done):∀r∈rowsOf L own,r.Nodup /\ ∀y∈r,y∈done:=fun r hr=>by
 rcases yr.mp hr with⟨y,hy,rfl⟩|rfl
 ·exact F.ld y (sub y hy)
 ·exact⟨nd,sub⟩
theorem Fm.small {done:List Str}{L Ps:Str->List Str} (F:Fm done L Ps) (hk:∀x∈done,Nm x) (h8:done.length<=8) {own:List Str} (nd:own.Nodup) (h4:own.length<=4) (sub:∀y∈own,y∈done):Small (rowsOf L own):=by
 refine⟨?_,fun r hr=>?_,fun r hr y hy=>?_⟩
 ·unfold rowsOf;rw[c9,aE,j9];omega
 ·obtain⟨h1,h2⟩:=F.qj nd sub r hr
  have:=len_sub h1 h2
  omega
 ·exact hk y ((F.qj nd sub r hr).2 y hy)
theorem Fm.order {done:List Str}{L Ps:Str->List Str} (F:Fm done L Ps) {own o:List Str} (nd:own.Nodup) (sub:∀y∈own,y∈done) (hm:bw (total (rowsOf L own)) (rowsOf L own)=some o):o.Nodup/\(∀y∈o,y∈done) /\ ∀r∈rowsOf L own,∀y∈r,y∈o:=by
 obtain⟨⟨h1,h2⟩,_⟩:=sound _ _ rfl (fun r hr=>(F.qj nd sub r hr).1) o hm
 refine⟨h1,fun y hy=>?_,fun r hr y hy=>(h2 y).mpr ⟨r,hr,hy⟩⟩
 obtain⟨r,hr,h⟩:=(h2 y).mp hy
 exact(F.qj nd sub r hr).2 y h
theorem Vl {L L':Str->List Str}{own:List Str} (h:∀y∈own,L' y=L y):rowsOf L' own=rowsOf L own:=by
 unfold rowsOf;rw[AW h]
theorem Fm.add {done:List Str}{L Ps:Str->List Str} (F:Fm done L Ps) {k:Str}{own o:List Str} (hk:k ∉ done) (nd:own.Nodup) (h4:own.length<=4) (sub:∀y∈own,y∈done) (hm:bw (total (rowsOf L own)) (rowsOf L own)=some o) :
  Fm (done ++ [k]) (fun x=>if x=k then k::o else L x) (fun x=>if x=k then own else Ps x):=by
 have nk:∀ {y},y∈done->y≠k:=fun h z=>hk (z ▸ h)
 have ext:∀ {ps:List Str},(∀y∈ps,y∈done)->rowsOf (fun x=>if x=k then k::o else L x) ps=rowsOf L ps:=fun h=>Vl fun y hy=>aq (nk (h y hy))
 obtain⟨o1,o2,_⟩:=F.order nd sub hm
 refine⟨fun x hx=>?_,fun x hx=>?_,fun x hx=>?_,fun i x hx y hy=>?od⟩
 case od =>
  rcases Nat.lt_or_ge i done.length with lt | ge
  ·rw[akH lt]at hx
   rw[aq (nk (j8 hx))]at hy
   rw[alx (xZ lt)]
   exact F.od i x hx y hy
  ·rw[akG ge]at hx
   have e0:i - done.length=0:=by have:=(b9.mp hx).1;rw[j9]at this;omega
   rw[e0]at hx;cases hx
   rw[aA rfl]at hy
   have ei:i=done.length:=by omega
   rw[ei,List.take_left];exact sub y hy
 ·by_cases e:x=k
  ·rw[aA e];exact⟨nd,h4,fun y hy=>jf _ (sub y hy)⟩
  ·rw[aq e]
   obtain⟨a,b,c⟩:=F.ps x (by rcases dk.mp hx with z | z;exact z;exact absurd (by simpa using z) e)
   exact⟨a,b,fun y hy=>jf _ (c y hy)⟩
 ·by_cases e:x=k
  ·refine⟨o,?_,by rw[aA e,e]⟩
   rw[aA e,ext sub];exact hm
  ·have eI:x∈done:=by rcases dk.mp hx with z | z;exact z;exact absurd (by simpa using z) e
   obtain⟨o',h1,h2⟩:=F.ln x eI
   refine⟨o',?_,by rw[aq e];exact h2⟩
   rw[aq e,ext (F.ps x eI).2.2];exact h1
 ·by_cases e:x=k
  ·rw[aA e]
   refine⟨ix.mpr ⟨fun z=>hk (o2 k z),o1⟩,fun y hy=>?_⟩
   rcases bq.mp hy with z | z
   ·rw[z];exact eU _ ba
   ·exact jf _ (o2 y z)
  ·rw[aq e]
   have eI:x∈done:=by rcases dk.mp hx with z | z;exact z;exact absurd (by simpa using z) e
   obtain⟨a,b⟩:=F.ld x eI
   exact⟨a,fun y hy=>jf _ (b y hy)⟩
def f9 (Ps:Str->List Str) (ks:List Str):List (Str×List Str):=ks.map fun x=>(x,Ps x)
theorem K1 (Ps:Str->List Str) (ks:List Str):(f9 Ps ks).map (·.1)=ks:=by
 unfold f9;rw[nO];exact List.map_id' _
theorem WY (xs:List Str):gu (xs.map V.str) none (some (-1))=xs.dropLast.map V.str:=by
 unfold gu
 have e1:HT.gj (xs.map V.str).length 0 none=0:=rfl
 have e2:HT.gj (xs.map V.str).length (xs.map V.str).length (some (-1))=xs.length - 1:=by
  rw[aE]
  unfold HT.gj
  simp
  omega
 rw[e1,e2,List.drop_zero,Nat.sub_zero,<-List.map_take,List.dropLast_eq_take]
theorem BY {p a:Addr}{H:Hp}{xs:List Str} (h:d9 p H) (e:H a=some (.lst (xs.map V.str))):a≠p:=by
 rintro rfl
 obtain⟨x,y,e2,_⟩:=h
 rw[e]at e2
 have e3:xs.map V.str = [.int x,.int y]:=HO.lst.inj (gF e2)
 cases xs with
 | nil=>cases e3
 | cons z t=>cases e3
theorem eM.Q1 {p:Addr}{H H':Hp}{kvs:List (Key×V)}{L:Str->List Str}{x:Str} (h:eM H kvs L x) (ok:d9 p H) (s:bX p H H'):eM H' kvs L x:=let ⟨a,e,q⟩:=h;⟨a,e,s.kp _ _ q (BY ok q)⟩
theorem eM.write {H H':Hp}{d:Addr}{kvs aa6:List (Key×V)}{L:Str->List Str}{x:Str}{u:HO} (h:eM H kvs L x) (hd:H d=some (.dK aa6)) (e:H'=upd H d u):eM H' kvs L x:=let ⟨a,e1,q⟩:=h;⟨a,e1,by rw[e,ah (b7 q hd (by intro z;cases z))];exact q⟩
theorem MM {p d:Addr}{H H':Hp}{kvs:List (Key×V)} (ok:d9 p H) (s:bX p H H') (e:H d=some (.dK kvs)):H' d=some (.dK kvs):=by
 obtain⟨x,y,ep,_⟩:=ok
 exact s.kp _ _ e (b7 e ep (by intro z;cases z))
theorem sh {p:Addr}{H H':Hp} (h:d9 p H) (s:ak H H'):bX p H H':=by
 obtain⟨x,y,e,r⟩:=h
 exact⟨⟨x,y,s _ _ e,r⟩,fun b o e _=>s b o e⟩
theorem MN {H:Hp}{kvs:List (Key×V)}{L:Str->List Str}{k:Str}{a d:Addr}{l:List Str} (hd:H d=some (.dK kvs)) (hl:H a=some (.lst (l.map V.str))) {x:Str} (h:x≠k->eM H kvs L x) :
  eM (upd H d (.dK (putK kvs (Sum.inr k) (.ref a)))) (putK kvs (Sum.inr k) (.ref a)) (fun x=>if x=k then l else L x) x:=by
 unfold eM
 rw[vk]
 by_cases e:x=k
 ·subst e
  refine⟨a,by rw[aA rfl],?_⟩
  rw[ah (b7 hl hd (by intro z;cases z))];show H a=some (.lst ((if x=x then l else L x).map V.str));rw[aA rfl];exact hl
 ·obtain⟨b,e1,e2⟩:=h e
  refine⟨b,by rw[aq (fun z=>e (xY z))];exact e1,?_⟩
  rw[ah (b7 e2 hd (by intro z;cases z))];show H b=some (.lst ((if x=k then l else L x).map V.str));rw[aq e];exact e2
theorem Ma {kvs:List (Key×V)}{done:List Str}{k:Str}{v:V} (h:kvs.map (·.1)=done.map Sum.inr) (hk:k ∉ done):(putK kvs (Sum.inr k) v).map (·.1)=(done ++ [k]).map Sum.inr:=by
 have hv:cb kvs (Sum.inr k)=none:=by
  have:(cb kvs (Sum.inr k)).isSome=false:=by
   rw[<-se,Tf]
   intro kv jY hd
   have e:kv.1=Sum.inr k:=uZ hd
   have:kv.1∈kvs.map (·.1):=bf.mpr ⟨kv,jY,rfl⟩
   rw[h,e]at this
   obtain⟨y,hy,ey⟩:=bf.mp this
   exact hk (xY ey ▸ hy)
  cases e:cb kvs (Sum.inr k) with
  | none=>rfl
  | some _=>rw[e]at this;cases this
 rw[Wk _ hv,bV,bV,h];rfl
theorem bu.YG {H:Hp}{vs:List V}{aa:List (Str×List Str)} (h:bu H vs aa):∃kvs,lC H vs kvs/\kvs.map (·.1)=aa.map (·.1) /\ ∀q∈kvs,∃z,q.2=V.ref z:=by
 induction h with
 | nil=>exact⟨[],.nil,rfl,by simp⟩
 | cons p _ ih =>
  obtain⟨a,b,e,q,r⟩:=p
  obtain⟨kvs,h1,h2,h3⟩:=ih
  refine⟨(_,.ref b)::kvs,.cons ⟨a,e,q⟩ h1,by rw[cD,cD,h2],fun z hz=>?_⟩
  rcases bq.mp hz with rfl | hz
  ·exact⟨b,rfl⟩
  ·exact h3 z hz
theorem K2 {H:Hp}:∀ {vs:List V}{aa:List (Str×List Str)}{kvs:List (Str×V)},bu H vs aa->lC H vs kvs->kvs.map (·.1)=aa.map (·.1)
 | _,_,_,.nil,.nil=>rfl
 | _,_,_,.cons ⟨a,b,e,q,r⟩ t,.cons ⟨a',e',q'⟩ t'=>by
  have ea:a=a':=by rw[e]at e';cases e';rfl
  subst ea
  rw[q]at q'
  rw[cD,cD,K2 t t']
  injection (gF q') with z
  injection z with z1 z2
  injection z1 with z3
  rw[z3]
section
variable {P : Program} {w : World} {K : Frag} {mg : Str -> Option Value} {base : Heap} {f : Addr} {fd : FuncData}
structure Na (p:Addr) (H:Hp) (ks:List Str) (r t d1 d2:Addr) (ws:List V) (gb:List (Key×V)) (L Ps:Str->List Str) (aa:List (Str×List Str)) (H':Hp):Prop where
 hr:H' r=some (.tup [.ref t,.ref d1,.ref d2])
 ht:H' t=some (.tup ws)
 fv:bu H' ws aa
 pm:aa.Perm (f9 Ps ks)
 fm:Fm ks L Ps
 hd:H' d2=some (.dK gb)
 hk:gb.map (·.1)=ks.map Sum.inr
 pl:∀x∈ks,eM H' gb Ps x
 pa:bX p H H'
 n2:H d2=none
 so:(aa.map (·.1)).Pairwise fun a b=>gN a b=true
@[irreducible] def tw:Sp:=fun vs H Q _=>∃ (p n:Addr) (ks:List Str),vs = [.ref p,.ref n]/\d9 p H/\H n=some (.lst (ks.map V.str))/\ks.Nodup/\(∀x∈ks,Nm x)/\ks.length<=8 /\
 ∀r t d1 d2 ws gb L Ps aa H',Na p H ks r t d1 d2 ws gb L Ps aa H'->Q (.ref r) H'
theorem YH {p n:Addr}{ks:List Str}{H:Hp}{Q:VK}{E:XK} (hp:d9 p H) (hn:H n=some (.lst (ks.map V.str))) (nd:ks.Nodup) (nm:∀x∈ks,Nm x) (h8:ks.length<=8)
  (q:∀r t d1 d2 ws gb L Ps aa H',Na p H ks r t d1 d2 ws gb L Ps aa H'->Q (.ref r) H'):tw [.ref p,.ref n] H Q E:=by unfold tw;exact⟨p,n,ks,rfl,hp,hn,nd,nm,h8,q⟩
abbrev OG:List Str:= ["_law_pot_here", "_law_kinds", "_law_lines", "_law_parents_here", "_law_kind", "_law_own", "_law_turn", "_law_family_here"]
theorem oG:bZ OG ["_law_pot_here", "_law_kinds"] (ay nW):=⟨rfl,rfl,rfl,by decide +kernel,rfl,by decide +kernel,by decide +kernel⟩
abbrev aa7:Expr:=ig (ig (eW (cw (aQ nW) 2)))
theorem ND:cf OG (ay nW) ["_law_kind", "_law_parents_here"] [none,some 3] (cR aa7):=⟨rfl,by decide +kernel,by decide +kernel,rfl,d7 (by decide +kernel),by decide +kernel⟩
theorem YI {fP fL:Addr}{dP dL:FuncData} (F:aZ K "_law_family" "_law_family" nW f fd) (B:eK mg) (B2:jz mg)
  (GP:aG P w K mg base aL 2 fP dP ["_law_pot_here", "_law_made"] tq) (kP:keepIn K (.ref fP)=true) (bP:Binds K dP ["_law_pot_here", "_law_made"] []) (mP:mg "_law_parents" = some (.ref fP))
  (GL:aG P w K mg base aL 2 fL dL ["_law_lines", "_law_kind", "_law_own"] tO) (kL:keepIn K (.ref fL)=true) (bL:Binds K dL ["_law_lines", "_law_kind", "_law_own"] []) (mL:mg "_law_line" = some (.ref fL)) :
  aG P w K mg base aL 3 f fd ["_law_pot_here", "_law_kinds"] tw:=by
 refine F.ok oG (fun vs H Q E h=>?_) (fun cdv A outer s H vs Q E hr h=>?_)
 ·unfold tw at h;obtain⟨p,n,ks,rfl,_⟩:=h;rfl
 ·unfold tw at h
  obtain⟨p,n,ks,rfl,hp,hn,knd,Ao,k8,q⟩:=h
  have hu:=hr.units
  have eu:=nP (nQ (show 1<=64 by decide) _) hu
  refine⟨_,aC (vy (mw (ae BO (ae BO ai))) (sI rfl (gQ (a8 (i:=2) oG.nd rfl (Or.inl rfl)) (gQ (a8 (i:=3) oG.nd rfl (Or.inr rfl)) nY))))
   (aC (jr jM rfl (gG (pv 1)) (a8 (i:=4) oG.nd rfl (Or.inl rfl))
    (aC (a9 (i:=5) oG.nd rfl (Or.inl rfl) (aR GP hr rfl mP kP bP .nil aV (ae (pv 0) (ae (fb (KQ rfl) rfl B.list boot_list (ae (pv 2) ai)) ai))))
    (aC (jr jM rfl (nT rfl B.range (ae aP ai)) (a8 (i:=6) oG.nd rfl (Or.inl rfl))
     (aM (cN (cE vz (aR GL hr rfl mL kL bL .nil aV (ae (pv 2) (ae (pv 4) (ae (pv 5) ai)))) iE (cP _))
      (aM (a9 (i:=5) oG.nd rfl (Or.inl rfl) (yB B6 (pv 5) yJ (vo (Cy Ci aP))))) cM)))
    (aC (B9 eu (pv 2) (pv 4) (aR GL hr rfl mL kL bL .nil aV (ae (pv 2) (ae (pv 4) (ae (pv 5) ai)))) rfl)
    (aM (B9 eu (pv 3) (pv 4) (pv 5) rfl))))))
   (aC (a9 (i:=7) oG.nd rfl (Or.inl rfl) (fb j' rfl B.tuple boot_tuple (ae (bx Us rfl B2.sorted boot_sorted (ae (ff rfl ND (gG (pv 1)) (fun s H fp=>⟨a8 (i:=0) ND.nd rfl (Or.inl rfl),iC,
     mw (ae (pv 0) (ae (fb (Kq K rfl) rfl B.tuple boot_tuple (ae (nZ eu (pv 1) (pv 0) (fun _ _=>rfl)) ai)) ai))⟩)) ai)) ai)))
   (aM (bo (mw (ae (pv 7) (ae (pv 2) (ae (pv 3) ai)))))))),?_⟩
  intro d1 uw d2 hd2
  have S2:ak H (upd (upd H d1 (.dK [])) d2 (.dK [])):=(aF uw).trans (aF hd2)
  have Ho:d1≠d2:=ao ag hd2
  have Dz:H d2=none:=(aF uw).free hd2
  refine⟨by show 2<=sizeLine;rw[aI];decide,fun tp jK=>?_⟩
  have k2:(upd (upd H d1 (.dK [])) d2 (.dK [])) d1=some (.dK []):=by rw[ah Ho];exact ag
  have S3:=S2.trans (aF (o:= .tup [V.ref d1,.ref d2]) jK)
  have OH:upd (upd (upd H d1 (.dK [])) d2 (.dK [])) tp (.tup [V.ref d1,.ref d2]) d1=some (.dK []):=by rw[ah (ao k2 jK)];exact k2
  have OI:upd (upd (upd H d1 (.dK [])) d2 (.dK [])) tp (.tup [V.ref d1,.ref d2]) d2=some (.dK []):=by rw[ah (ao ag jK)];exact ag
  refine⟨tp,_,rfl,aJ.of ag,rfl,_,_,rfl,_,_,rfl,rfl,?_⟩
  generalize upd (upd (upd H d1 (.dK [])) d2 (.dK [])) tp (.tup [V.ref d1,.ref d2])=H0 at S3 OH OI ⊢
  have P0:bX p H H0:=sh hp S3
  have np1:p≠d1:=hp.ne uw
  have np2:p≠d2:=hp.ne Dz
  have Hq:n≠p:=BY hp hn
  refine⟨_,rfl,n,rfl,⟨_,aj.of (P0.kp _ _ hn Hq)⟩,yA (xs:=ks.map V.str) (fun i σ H1=>∃ (iK gb:List (Key×V)) (L Ps:Str->List Str) (v4 v5 v6:Option V),σ = [some (.ref p),some (.ref n),some (.ref d1),some (.ref d2),v4,v5,v6,none]/\bX p H H1 /\
   H1 d1=some (.dK iK)/\H1 d2=some (.dK gb)/\iK.map (·.1)=(ks.take i).map Sum.inr/\gb.map (·.1)=(ks.take i).map Sum.inr/\(∀x∈ks.take i,eM H1 iK L x)/\(∀x∈ks.take i,eM H1 gb Ps x)/\Fm (ks.take i) L Ps)
   ⟨[],[],fun _=>[],fun _=>[],none,none,none,rfl,P0,OH,OI,rfl,rfl,fun x hx=>(by cases hx),fun x hx=>(by cases hx),⟨fun x hx=>(by cases hx),fun x hx=>(by cases hx),fun x hx=>(by cases hx),fun i x hx=>(by cases hx)⟩⟩ (fun i σ H1 _ ⟨_,_,_,_,_,_,_,_,z,_⟩=>aj.of (z.kp _ _ hn Hq)) ?_ ?_⟩
  ·rintro i x σ H1 hx ⟨iK,gb,L,Ps,v4,v5,v6,rfl,P1,oW,xh,e1,e2,l1,l2,fm⟩
   have fX:i < ks.length:=by simpa using (b9.mp hx).1
   obtain rfl:V.str ks[i]=x:=by simpa [fX] using hx
   have pA:ks.take (i+1)=ks.take i ++ [ks[i]]:=by rw[dz,br fX];rfl
   have DA:ks[i] ∉ ks.take i:=by
    have:(ks.take (i+1)).Nodup:=knd.sublist (Th _ _)
    rw[pA]at this
    exact fun z=>(lr.mp this).2.2 _ z _ ba rfl
   have dnd:(ks.take i).Nodup:=knd.sublist (Th _ _)
   have Q3:∀x∈ks.take i,Nm x:=fun x hx=>Ao x (Ud hx)
   have d8:(ks.take i).length<=8:=by rw[dq];omega
   have lk1:iK.length=(ks.take i).length:=by have:=eT List.length e1;simpa using this
   have lk2:gb.length=(ks.take i).length:=by have:=eT List.length e2;simpa using this
   refine⟨_,rfl,_,rfl,d1,iK,rfl,oW,fun l hl=>?_⟩
   have ek:iK.map (fun kv=>kV kv.1)=(ks.take i).map V.str:=by
    have:iK.map (fun kv=>kV kv.1)=(iK.map (·.1)).map kV:=by rw[nO];rfl
    rw[this,e1,nO];rfl
   rw[ek]
   have Pl:=P1.new (o:= .lst ((ks.take i).map V.str)) hl
   have Sl:=aF (o:= .lst ((ks.take i).map V.str)) hl
   refine YE Pl.ok (P1.ok.ne hl) ag (by omega) fun oa own rest H3 nD gr ja pb h3=>?_
   have P3:=Pl.trans pb
   have jd:own.Nodup:=(lr.mp (gr.nodup_iff.mpr dnd)).1
   have i6:∀y∈own,y∈ks.take i:=fun y hy=>gr.mem_iff.mp (jf _ hy)
   have Hr:=MM Pl.ok pb (Sl _ _ oW)
   have h32:=MM Pl.ok pb (Sl _ _ xh)
   have Hs:∀x∈ks.take i,eM H3 iK L x:=fun x hx=>((l1 x hx).same Sl).Q1 Pl.ok pb
   have l32:∀x∈ks.take i,eM H3 gb Ps x:=fun x hx=>((l2 x hx).same Sl).Q1 Pl.ok pb
   refine⟨5,rfl,by decide,by decide,rV (fun j σ H4=>∃ (oa:Addr) (own:List Str) (v6:Option V),σ = [some (.ref p),some (.ref n),some (.ref d1),some (.ref d2),some (.str ks[i]),some (.ref oa),v6,none]/\ak H3 H4/\H4 oa=some (.lst (own.map V.str))/\own.Nodup/\(∀y∈own,y∈ks.take i)/\own.length<=4/\(bw (total (rowsOf L own)) (rowsOf L own)≠none\/own.length+j<=4))
    ⟨oa,own,_,rfl,ak.refl _,h3,jd,i6,ja,.inr ja⟩ ?_ ?_⟩
   ·clear gr ja jd i6 h3 nD
    rintro j σ H4 hj ⟨oa,own,v6,rfl,S4,h4,jd,i6,ja,Ht⟩
    have xF:=fm.small Q3 d8 jd ja i6
    have Hu:=fun r hr=>(fm.qj jd i6 r hr).1
    refine⟨_,rfl,_,rfl,_,rfl,NC (S4 _ _ Hr) h4 (fun x hx=>(Hs x (i6 x hx)).same S4) xF Hu (fun e H5 S5=>?_) (fun o e lp H5 hlp S5 h5=>?_)⟩
    ·refine⟨rfl,_,rfl,?_⟩
     refine⟨_,rfl,?_⟩
     have bc:own ≠ []:=fun z=>by rw[z]at e;cases e
     have Dn:0 < own.length:=aln.mpr bc
     refine⟨1,rfl,_,rfl,oa,_,rfl,aj.of (S5 _ _ h4),fun c hc=>?_⟩
     refine⟨c,own.dropLast,_,rfl,(S4.trans S5).trans (aF hc),?_,jd.sublist (List.dropLast_sublist _),fun y hy=>i6 y (List.dropLast_subset _ hy),by rw[aly];omega,.inr ?_⟩
     ·have:=WY own
      rw[ag];exact eT some (eT HO.lst this)
     ·rcases Ht with z | z
      ·exact absurd e z
      ·rw[aly];omega
    ·refine⟨rfl,_,rfl,?_⟩
     exact⟨oa,own,_,rfl,S4.trans S5,S5 _ _ h4,jd,i6,ja,.inl (by rw[e];exact Option.some_ne_none _)⟩
   ·clear gr ja jd i6 h3 nD
    rintro σ H4 ⟨oa,own,v6,rfl,S4,h4,jd,i6,ja,Ht⟩
    have xF:=fm.small Q3 d8 jd ja i6
    have Hu:=fun r hr=>(fm.qj jd i6 r hr).1
    have hn0:bw (total (rowsOf L own)) (rowsOf L own)≠none:=by
     rcases Ht with z | z
     ·exact z
     ·exact absurd z (by show ¬ (own.length+Int.toNat 5<=4);have:Int.toNat 5=5:=rfl;omega)
    refine⟨_,rfl,_,rfl,_,rfl,NC (S4 _ _ Hr) h4 (fun x hx=>(Hs x (i6 x hx)).same S4) xF Hu (fun e=>absurd e hn0) (fun o e lp H5 hlp S5 h5=>?_)⟩
    have xH:=S4.trans S5
    have Ap:=xH _ _ Hr
    have h52:=xH _ _ h32
    refine⟨_,rfl,_,rfl,d1,_,rfl,qt.k (k:=Sum.inr ks[i]) Ap (by rw[aI];omega),?_⟩
    have Hv:upd H5 d1 (.dK (putK iK (Sum.inr ks[i]) (.ref lp))) d2=some (.dK gb):=by rw[ah (aO Ho)];exact h52
    refine⟨_,rfl,_,rfl,_,rfl,d2,_,rfl,qt.k (k:=Sum.inr ks[i]) Hv (by rw[aI];omega),?_⟩
    have P5:bX p H H5:=P3.trans (sh P3.ok xH)
    have l61:∀x∈ks.take (i+1),eM (upd H5 d1 (.dK (putK iK (Sum.inr ks[i]) (.ref lp)))) (putK iK (Sum.inr ks[i]) (.ref lp)) (fun x=>if x=ks[i] then ks[i]::o else L x) x:=fun x hx=>MN Ap h5 fun ne=>(Hs x (by
     rw[pA]at hx
     rcases dk.mp hx with z | z
     ·exact z
     ·exact absurd (by simpa using z) ne)).same xH
    have h6o:upd H5 d1 (.dK (putK iK (Sum.inr ks[i]) (.ref lp))) oa=some (.lst (own.map V.str)):=by rw[ah (b7 (S5 _ _ h4) Ap (by intro z;cases z))];exact S5 _ _ h4
    refine⟨_,_,_,_,_,_,_,rfl,(P5.write uw np1).write Dz np2,by rw[ah Ho];exact ag,ag,by rw[pA];exact Ma e1 DA,by rw[pA];exact Ma e2 DA,fun x hx=>(l61 x hx).write Hv rfl,fun x hx=>?_,by rw[pA];exact fm.add DA jd ja i6 e⟩
    refine MN Hv h6o fun ne=>?_
    exact((l32 x (by
     rw[pA]at hx
     rcases dk.mp hx with z | z
     ·exact z
     ·exact absurd (by simpa using z) ne)).same xH).write Ap rfl
  ·rintro σ H1 ⟨iK,gb,L,Ps,v4,v5,v6,rfl,P1,oW,xh,e1,e2,l1,l2,fm⟩
   rw[aE,d5]at e2 l2 fm
   have Q4:=P1.kp _ _ hn Hq
   refine⟨_,rfl,n,rfl,⟨_,aj.of Q4⟩,fun c hc=>?_⟩
   refine iV (xs:=ks.map V.str) (fun i ys τ H2=>∃t0:Option V,τ = [t0,some (.ref d2)]/\H2 c=some (.lst ys)/\ak H1 H2/\bu H2 ys (f9 Ps (ks.take i))) ⟨none,rfl,ag,aF hc,.nil⟩ (fun i ys τ H2 ⟨_,_,z1,z2,_⟩=>⟨z1,aj.of (z2 _ _ Q4)⟩) ?_ ?_
   ·rintro i x ys τ H2 hx ⟨t0,rfl,h2,xI,F2⟩
    have b6:i < (ks.map V.str).length:=(b9.mp hx).1
    have fX:i < ks.length:=by simpa using b6
    obtain rfl:V.str ks[i]=x:=by simpa [fX] using hx
    have pA:ks.take (i+1)=ks.take i ++ [ks[i]]:=by rw[dz,br fX];rfl
    obtain⟨a,ea,ha⟩:=(l2 ks[i] (iT fX)).same xI
    refine⟨_,rfl,_,rfl,_,rfl,d2,.ref a,rfl,by rw[<-ea];exact gJ.k (k:=Sum.inr ks[i]) (xI _ _ xh),?_⟩
    refine⟨a,_,rfl,.inl ⟨aj.of ha,fun b hb=>?_⟩⟩
    have Sb:=aF (o:= .tup ((Ps ks[i]).map V.str)) hb
    refine⟨by show 2<=sizeLine;rw[aI];decide,fun t ht=>?_⟩
    have St:=Sb.trans (aF (o:= .tup [V.str ks[i],.ref b]) ht)
    have Q5:upd (upd H2 b (.tup ((Ps ks[i]).map V.str))) t (.tup [V.str ks[i],.ref b]) b=some (.tup ((Ps ks[i]).map V.str)):=by rw[ah (ao ag ht)];exact ag
    have Hw:=St _ _ h2
    refine⟨Hw,?_,cw_next b6 ⟨_,rfl,ag,fun x u hx=>by rw[ah (ao hx hc)];exact St _ _ (xI x u hx),?_⟩⟩
    ·have:=F2.length
     unfold f9 at this
     rw[aE,dq]at this
     rw[aI];omega
    ·have ef:f9 Ps (ks.take (i+1))=f9 Ps (ks.take i) ++ [(ks[i],Ps ks[i])]:=by rw[pA];unfold f9;rw[bV];rfl
     rw[ef]
     refine bu.append (F2.keep fun x xs hx=>?_) ?_ ?_ (b:=b)
     ·rw[ah (b7 hx h2 (by intro z;cases z))];exact St _ _ hx
     ·rw[ah (b7 ag Hw (by intro z;cases z))];exact ag
     ·rw[ah (b7 Q5 Hw (by intro z;cases z))];exact Q5
   ·rintro ys τ H2 ⟨t0,rfl,h2,xI,F2⟩
    rw[aE,d5]at F2
    obtain⟨kvs,pv,ekv,prf⟩:=F2.YG
    have Af:=F2.length
    have hlk:(f9 Ps ks).length=ks.length:=by unfold f9;exact aE ..
    refine⟨c,ys,kvs,rfl,aj.of h2,pv,prf,by rw[ekv,K1];exact knd,by omega,fun D eg dw hD gr hpv jb uG=>?_⟩
    have SD:=aF (o:= .lst eg) hD
    refine⟨D,eg,rfl,.inl ⟨aj.of ag,fun t ht=>?_⟩⟩
    have St:=SD.trans (aF (o:= .tup eg) ht)
    obtain⟨ik,jc,F3⟩:=Ky gr F2
    rw[K2 F3 hpv]at uG
    refine⟨_,rfl,_,rfl,_,rfl,by show 3<=sizeLine;rw[aI];decide,fun r hr=>?_⟩
    have Sr:=St.trans (aF (o:= .tup [V.ref t,.ref d1,.ref d2]) hr)
    have DB:=xI.trans Sr
    refine q r t d1 d2 eg gb L Ps ik _ ⟨ag,by rw[ah (ao ag hr)];exact ag,bu.same F3 Sr,jc,fm,DB _ _ xh,e2,fun x hx=>(l2 x hx).same DB,P1.trans (sh P1.ok DB),Dz,uG⟩
end
end aX
namespace aX
open PySem L2 PySem.W HT
theorem ite_ff {A B:Prop}{k:Bool} (hk:k=false) (h:B):if k=true then A else B:=by subst hk;exact h
theorem ite_tt {A B:Prop}{k:Bool} (hk:k=true) (h:A):if k=true then A else B:=by subst hk;exact h
theorem boot_set:bootBuiltins "set" = some (.type "set"):=by decide +kernel
theorem MO {a b:List Str} (ha:a.Nodup) (hb:b.Nodup) (h:∀x,x∈a ↔ x∈b):a.Perm b:=(alz ha hb).mpr h
def Cr (s:Stmt):Expr:=match s with | .If t _ _ _=>t | _=>.Constant .none 0 ⟨0,0,0,0⟩
theorem Mb {X:Cx}{pos:Pos} (K:Frag) (h:X.K=K) {es:List Expr}{k:Nat}{t:lQ}{n:Nat} (hc:X.calm=true) (hh:ud X es t)
  (hn:(assignEach es X.env).length=n:=by rfl) (wM:(assignEach es X.env).findIdx? (·.1)=none:=by rfl):PG X (.Tuple es k pos) (CZ K n t):=by subst h;exact sI hc hh hn wM
def keysOf (aa:aK):List Str:=aa.map (·.1)
def FA (H:Hp) (t:Addr) (aa:aK):Prop:=bp aa /\ ∃ws,H t=some (.tup ws)/\bu H ws aa
theorem FA.same {H H':Hp}{t:Addr}{aa:aK} (h:FA H t aa) (s:ak H H'):FA H' t aa:=let ⟨a,ws,b,c⟩:=h;⟨a,ws,s _ _ b,c.same s⟩
theorem bp.Hx {aa:aK} (s:bp aa) {x:Str} (h:x∈keysOf aa):Nm x:=by obtain⟨p,hp,rfl⟩:=bf.mp h;exact s.nm p hp
theorem vw {X:Cx}:Passes (c8 X.prog X.w) X fun _ _ _=>False:=fun pins σ H s e s' I z=>by
 obtain⟨_,_,_,_,_,_,_,_,_,_,_,_,_,_,_,f⟩:=z
 exact f.elim
section
variable {P : Program} {w : World} {K : Frag} {mg : Str -> Option Value} {base : Heap} {f : Addr} {fd : FuncData}
@[irreducible] def oz:Sp:=fun vs H Q _=>∃x:Str,vs = [.str x]/\Nm x /\ ∀H',ak H H'->Q (.bl true) H'
theorem Cb {x:Str}{H:Hp}{Q:VK}{E:XK} (h:Nm x) (q:∀H',ak H H'->Q (.bl true) H'):oz [.str x] H Q E:=by unfold oz;exact⟨x,rfl,h,q⟩
theorem YJ:bZ ["thing"] ["thing"] (ay n4):=⟨rfl,rfl,rfl,by decide +kernel,rfl,by decide +kernel,by decide +kernel⟩
abbrev aa8:Expr:=ig (wo (cw (aQ n4) 1))
theorem NF:cf ["thing"] (ay n4) ["sign"] [none] (cR aa8):=⟨rfl,by decide +kernel,by decide +kernel,rfl,d7 (by decide +kernel),by decide +kernel⟩
theorem XX (F:aZ K "is_name" "is_name" n4 f fd) (B:eK mg) (B2:jz mg):aG P w K mg base aL 1 f fd ["thing"] oz:=by
 refine F.ok YJ (fun vs H Q E h=>?_) (fun cdv A outer s H vs Q E hr h=>?_)
 ·unfold oz at h;obtain⟨x,rfl,_⟩:=h;rfl
 ·unfold oz at h
  obtain⟨x,rfl,hx,q⟩:=h
  have hu:=hr.units
  refine⟨_,aC (cN (PW.pt (pw_or (iX (ib (bx BN rfl B2.xG vn (ae (pv 0) (ae (yI (v:= .ty "str") rfl B2.str boot_str rfl) ai)))))
     (pw_or1 (iX (Wb Nj Nj aP (bx Uu rfl B.len hW (ae (pv 0) ai)) aP))))) (aM (bo km)) cM)
   (aM (bo (bx (yv rfl) rfl B.all boot_all (ae (ff rfl NF (Yz (pv 0)) (fun s H fp=>⟨a8 (i:=0) NF.nd rfl (Or.inl rfl),iC,Wa Lm Lm jq (pv 0) jq⟩)) ai)))),?_⟩
  have gC:=hx.lo
  have iO:=hx.hi
  have hlc:x.cps.size<=8:=hx.hi
  refine⟨_,rfl,⟨_,.inr ⟨"str", rfl⟩⟩,.str x,.ty "str", .type "str", .type "str", true,rfl,rfl,.inl (.str x),rfl,true,rfl,?_⟩
  refine⟨_,rfl,x,rfl,by rw[aI];omega,1,x.length,rfl,rfl,_,rfl,?_⟩
  refine ite_tt (gO (by omega)) ?_
  refine⟨x.length,8,rfl,rfl,_,rfl,?_⟩
  have e8:decide ((x.length:Int)<=8)=true:=gO (by omega)
  rw[e8]
  refine⟨_,rfl,x,rfl,fun p hp=>?_⟩
  refine Wq (fun i ys τ H1=>∃t0:Option V,τ = [t0]/\ys=(List.replicate i true).map V.bl/\H1=upd H p (.lst ys)) ⟨none,rfl,rfl,rfl⟩ (fun i ys τ H1 ⟨_,_,_,z⟩=>by rw[z];exact ag) ?_ ?_
  ·rintro i c ys τ H1 hc ⟨t0,rfl,rfl,rfl⟩
   have fX:i < x.cps.size:=by
    obtain⟨h,_⟩:=AL.mp hc
    exact h
   have hcz:=hx.az c (Array.mem_def.mp (ak6 hc))
   have e1:(!decide ((⟨#[c]⟩:Str).cps.toList < (Str.ofString "a").cps.toList))=true:=by
    have : ¬ ([c] < [97]):=by simp[alA];omega
    have hA:(Str.ofString "a").cps.toList = [97]:=by decide +kernel
    rw[hA];simpa using this
   have e2:(!decide ((Str.ofString "z").cps.toList < (⟨#[c]⟩:Str).cps.toList))=true:=by
    have : ¬ ([122] < [c]):=by simp[alA];omega
    have hA:(Str.ofString "z").cps.toList = [122]:=by decide +kernel
    rw[hA];simpa using this
   refine⟨_,rfl,_,_,rfl,rfl,_,rfl,ite_tt e1 ⟨_,_,rfl,rfl,ag,by rw[aE,JI,aI];omega,cw_next fX ⟨_,rfl,?_,?_⟩⟩⟩
   ·rw[e2,Ug,bV];rfl
   ·rw[jo]
  ·rintro ys τ H1 ⟨t0,rfl,rfl,rfl⟩
   refine⟨p,_,rfl,aj.of ag,?_⟩
   have:(List.replicate x.cps.size true).all id=true:=by simp
   rw[this]
   exact q _ (aF hp)
@[irreducible] def tP:Sp:=fun vs H Q _=>∃ (t:Addr) (xs:List Str),vs = [.ref t]/\H t=some (.tup (xs.map V.str))/\(∀x∈xs,Nm x)/\xs.Nodup/\xs.length<=100 /\ ∀H',ak H H'->Q (.bl true) H'
theorem rw_sp {t:Addr}{xs:List Str}{H:Hp}{Q:VK}{E:XK} (ht:H t=some (.tup (xs.map V.str))) (nm:∀x∈xs,Nm x) (nd:xs.Nodup) (hl:xs.length<=100) (q:∀H',ak H H'->Q (.bl true) H'):tP [.ref t] H Q E:=by unfold tP;exact⟨t,xs,rfl,ht,nm,nd,hl,q⟩
theorem aa9:bZ ["thing"] ["thing"] (ay oh):=⟨rfl,rfl,rfl,by decide +kernel,rfl,by decide +kernel,by decide +kernel⟩
abbrev eRw:Expr:=ig (Ov (Cq (Cr (cw (aQ oh) 0)) 1))
theorem OJ:cf ["thing"] (ay oh) ["name"] [none] (cR eRw):=⟨rfl,by decide +kernel,by decide +kernel,rfl,d7 (by decide +kernel),by decide +kernel⟩
theorem Zz {fN:Addr}{dN:FuncData} (F:aZ K "is_row" "is_row" oh f fd) (B:eK mg) (B2:jz mg) (bs:mg "set" = none) (GN:aG P w K mg base aL 1 fN dN ["thing"] oz) (kN:keepIn K (.ref fN)=true) (bN:Binds K dN ["thing"] []) (mN:mg "is_name" = some (.ref fN)):aG P w K mg base aL 2 f fd ["thing"] tP:=by
 refine F.ok aa9 (fun vs H Q E h=>?_) (fun cdv A outer s H vs Q E hr h=>?_)
 ·unfold tP at h;obtain⟨t,xs,rfl,_⟩:=h;rfl
 ·unfold tP at h
  obtain⟨t,xs,rfl,ht,nm,nd,hl,q⟩:=h
  have cC:aT 1 _:=hr
  refine⟨_,aC (cN (PW.pt (pw_or (iX (ib (bx BN rfl B2.xG vn (ae (pv 0) (ae (yI (v:= .ty "tuple") rfl B.tuple boot_tuple rfl) ai)))))
    (pw_or1 (iX (ib (bx (yv rfl) rfl B.all boot_all (ae (ff rfl OJ (mr (pv 0)) (fun s H fp=>⟨a8 (i:=0) OJ.nd rfl (Or.inl rfl),iC,aR GN cC rfl mN kN bN .nil aV (ae (pv 0) ai)⟩)) ai))))))) (aM (bo km)) cM)
   (aM (bo (ki Nh (bx UQ rfl B.len hW (ae (fb (WB rfl) rfl bs boot_set (ae (pv 0) ai)) ai)) (bx iU rfl B.len hW (ae (pv 0) ai)) (cP _)))),?_⟩
  refine⟨_,rfl,⟨_,.inr ⟨"tuple", rfl⟩⟩,.ref t,.ty "tuple", .type "tuple", .type "tuple", true,rfl,rfl,.inl (.tup ht),rfl,true,rfl,?_⟩
  refine⟨_,rfl,t,rfl,⟨_,aJ.of ht⟩,fun p hp=>?_⟩
  refine mq (xs:=xs.map V.str) (fun i ys τ H1=>∃t0:Option V,τ = [t0]/\ys=(List.replicate i true).map V.bl/\ak H H1/\H1 p=some (.lst ys)) ⟨none,rfl,rfl,aF hp,ag⟩ (fun i ys τ H1 ⟨_,_,_,z,z2⟩=>⟨z2,aJ.of (z _ _ ht)⟩) ?_ ?_
  ·rintro i x ys τ H1 hx ⟨t0,rfl,rfl,S1,h1⟩
   have b6:i < (xs.map V.str).length:=(b9.mp hx).1
   have fX:i < xs.length:=by simpa using b6
   obtain rfl:V.str xs[i]=x:=by simpa [fX] using hx
   refine⟨_,rfl,Cb (nm _ (iT fX)) fun H2 S2=>⟨S2 _ _ h1,by rw[aE,JI,aI];omega,cw_next b6 ⟨_,rfl,?_,fun b u e=>?_,ag⟩⟩⟩
   ·rw[Ug,bV];rfl
   ·rw[ah (ao e hp)];exact S2 _ _ (S1 _ _ e)
  ·rintro ys τ H1 ⟨t0,rfl,rfl,S1,h1⟩
   refine⟨p,_,rfl,aj.of h1,_,rfl,?_⟩
   have:(List.replicate (xs.map V.str).length true).all id=true:=by simp
   rw[this]
   have nG:=S1 _ _ ht
   refine⟨_,rfl,t,xs,rfl,.inr (aJ.of nG),by omega,fun a ds ha nds mem=>?_⟩
   have S2:=aF (o:=wk P w a ds) ha
   refine⟨a,ds,rfl,ag,_,rfl,t,_,rfl,.inr (aJ.of (S2 _ _ nG)),rfl,?_⟩
   rw[aE,(MO nds nd mem).length_eq]
   have:decide (V.int (xs.length:Int)=V.int (xs.length:Int))=true:=gO rfl
   rw[this]
   exact q _ (S1.trans S2)
@[irreducible] def oA:Sp:=fun vs H Q _=>∃ (t:Addr) (aa:aK) (x:Str),vs = [.ref t,.str x]/\FA H t aa/\Nm x /\ ∀H',ak H H'->Q (.bl (decide (x∈keysOf aa))) H'
theorem Cc {t:Addr}{aa:aK}{x:Str}{H:Hp}{Q:VK}{E:XK} (ht:FA H t aa) (hx:Nm x) (q:∀H',ak H H'->Q (.bl (decide (x∈keysOf aa))) H'):oA [.ref t,.str x] H Q E:=by unfold oA;exact⟨t,aa,x,rfl,ht,hx,q⟩
theorem YK:bZ ["family", "thing"] ["family", "thing"] (ay sq):=⟨rfl,rfl,rfl,by decide +kernel,rfl,by decide +kernel,by decide +kernel⟩
theorem Mc:∀ (kvs:List (Str×V)) (x:Str),(cb (qe kvs) (Sum.inr x)).isSome=decide (x∈kvs.map (·.1))
 | [],x=>rfl
 | p::kvs,x=>by
  rw[show qe (p::kvs)=(Sum.inr p.1,p.2)::qe kvs from rfl]
  by_cases e:p.1=x
  ·rw[jO (by rw[e])];simp[e]
  ·rw[jP (fun z=>e (xY z)),Mc kvs x]
   simp[bq,aO e]
theorem XY {fN:Addr}{xJ:FuncData} (F:aZ K "is_kind" "is_kind" sq f fd) (B2:jz mg) (GN:aG P w K mg base aL 1 fN xJ ["thing"] oz) (kN:keepIn K (.ref fN)=true) (bN:Binds K xJ ["thing"] []) (mN:mg "is_name" = some (.ref fN)):aG P w K mg base aL 2 f fd ["family", "thing"] oA:=by
 refine F.ok YK (fun vs H Q E h=>?_) (fun cdv A outer s H vs Q E hr h=>?_)
 ·unfold oA at h;obtain⟨t,aa,x,rfl,_⟩:=h;rfl
 ·unfold oA at h
  obtain⟨t,aa,x,rfl,⟨st,ws,ht,hf⟩,hx,q⟩:=h
  have hu:=hr.units
  have eu:=nP (nQ (show 1<=64 by decide) _) hu
  refine⟨_,aM (bo (Cf (aR GN hr rfl mN kN bN .nil aV (ae (pv 1) ai)) (Ce (MT (M1 eu (pv 1) (fb (Va rfl) rfl B2.dict boot_dict (ae (pv 0) ai))))))),?_⟩
  obtain⟨kvs,hp,hk⟩:=hf.pairs
  refine⟨_,rfl,Cb hx fun H1 S1=>⟨true,rfl,?_⟩⟩
  refine⟨_,rfl,_,rfl,t,ws,kvs,rfl,S1 _ _ ht,hp.same S1,by rw[hk];exact st.nd,fun d hd=>⟨d,_,rfl,gJ.k (k:=Sum.inr x) ag,?_⟩⟩
  rw[Mc,hk]
  exact q _ (S1.trans (aF hd))
@[irreducible] def lB:Sp:=fun vs H Q _=>∃ (t:Addr) (aa:aK) (x:Str),vs = [.ref t,.str x]/\FA H t aa/\x∈keysOf aa /\ ∀H',ak H H'->Q .aD H'
theorem si {t:Addr}{aa:aK}{x:Str}{H:Hp}{Q:VK}{E:XK} (ht:FA H t aa) (hx:x∈keysOf aa) (q:∀H',ak H H'->Q .aD H'):lB [.ref t,.str x] H Q E:=by unfold lB;exact⟨t,aa,x,rfl,ht,hx,q⟩
theorem XZ:bZ ["family", "thing"] ["family", "thing"] (ay sr):=⟨rfl,rfl,rfl,by decide +kernel,rfl,by decide +kernel,by decide +kernel⟩
theorem WZ {fK:Addr}{Q6:FuncData} (F:aZ K "check_kind" "check_kind" sr f fd) (GK:aG P w K mg base aL 2 fK Q6 ["family", "thing"] oA) (kK:keepIn K (.ref fK)=true) (bK:Binds K Q6 ["family", "thing"] []) (mK:mg "is_kind" = some (.ref fK)):aG P w K mg base aL 3 f fd ["family", "thing"] lB:=by
 refine F.ok XZ (fun vs H Q E h=>?_) (fun cdv A outer s H vs Q E hr h=>?_)
 ·unfold lB at h;obtain⟨t,aa,x,rfl,_⟩:=h;rfl
 ·unfold lB at h
  obtain⟨t,aa,x,rfl,ht,hx,q⟩:=h
  refine⟨_,aM (cN (iX (ib (aR GK hr rfl mK kK bK .nil aV (ae (pv 0) (ae (pv 1) ai))))) rT cM),?_⟩
  refine⟨_,rfl,_,rfl,Cc ht (ht.1.Hx hx) fun H1 S1=>⟨true,?_,q H1 S1⟩⟩
  rw[gO hx]
@[irreducible] def tx:Sp:=fun vs H Q _=>∃x:Str,vs = [.str x]/\Nm x /\ ∀H',ak H H'->Q .aD H'
theorem YL {x:Str}{H:Hp}{Q:VK}{E:XK} (hx:Nm x) (q:∀H',ak H H'->Q .aD H'):tx [.str x] H Q E:=by unfold tx;exact⟨x,rfl,hx,q⟩
theorem ZA:bZ ["thing"] ["thing"] (ay sk):=⟨rfl,rfl,rfl,by decide +kernel,rfl,by decide +kernel,by decide +kernel⟩
theorem YM {fN:Addr}{xJ:FuncData} (F:aZ K "check_name" "check_name" sk f fd) (GN:aG P w K mg base aL 1 fN xJ ["thing"] oz) (kN:keepIn K (.ref fN)=true) (bN:Binds K xJ ["thing"] []) (mN:mg "is_name" = some (.ref fN)):aG P w K mg base aL 2 f fd ["thing"] tx:=by
 refine F.ok ZA (fun vs H Q E h=>?_) (fun cdv A outer s H vs Q E hr h=>?_)
 ·unfold tx at h;obtain⟨x,rfl,_⟩:=h;rfl
 ·unfold tx at h
  obtain⟨x,rfl,hx,q⟩:=h
  refine⟨_,aM (cN (iX (ib (aR GN hr rfl mN kN bN .nil aV (ae (pv 0) ai)))) rT cM),?_⟩
  exact⟨_,rfl,Cb hx fun H1 S1=>⟨true,rfl,q H1 S1⟩⟩
@[irreducible] def nX:Sp:=fun vs H Q _=>∃ (t:Addr) (aa:aK) (k:Str),vs = [.ref t,.str k]/\FA H t aa/\eG aa/\k∈keysOf aa /\ ∀p H',ak H H'->H' p=some (.tup ((de aa k).map V.str))->Q (.ref p) H'
theorem r8 {t:Addr}{aa:aK}{k:Str}{H:Hp}{Q:VK}{E:XK} (ht:FA H t aa) (al:eG aa) (hk:k∈keysOf aa) (q:∀p H',ak H H'->H' p=some (.tup ((de aa k).map V.str))->Q (.ref p) H'):nX [.ref t,.str k] H Q E:=by unfold nX;exact⟨t,aa,k,rfl,ht,al,hk,q⟩
theorem aba:bZ ["family", "kind"] ["family", "kind"] (ay su):=⟨rfl,rfl,rfl,by decide +kernel,rfl,by decide +kernel,by decide +kernel⟩
theorem V3 {C fC fL:Addr}{pB nE:FuncData} (F:aZ K "line_of" "line_of" su f fd) (GC:aG P w K mg base aL 3 fC pB ["family", "thing"] lB) (kC:keepIn K (.ref fC)=true) (bC:Binds K pB ["family", "thing"] []) (mC:mg "check_kind" = some (.ref fC))
  (GL:aG P w K mg base (c8 P w) 5 fL nE ["family"] (n8 C)) (kL:keepIn K (.ref fL)=true) (bL:Binds K nE ["family"] []) (mL:mg "lines_of" = some (.ref fL)):aG P w K mg base aL 6 f fd ["family", "kind"] nX:=by
 refine F.ok aba (fun vs H Q E h=>?_) (fun cdv A outer s H vs Q E hr h=>?_)
 ·unfold nX at h;obtain⟨t,aa,k,rfl,_⟩:=h;rfl
 ·unfold nX at h
  obtain⟨t,aa,k,rfl,ht,al,hk,q⟩:=h
  have hu:=hr.units
  have eu:=nP (nQ (show 1<=64 by decide) _) hu
  have j6:aT 5 _:=hr
  have jL:aT 3 _:=j6.mono (by decide)
  refine⟨_,aC (fc (aR GC jL rfl mC kC bC .nil aV (ae (pv 0) (ae (pv 1) ai))))
   (aM (bo (nZ eu (aR GL j6 rfl mL kL bL .nil vw (ae (pv 0) ai)) (pv 1) (fun _ _=>rfl)))),?_⟩
  refine⟨_,rfl,_,rfl,si ht hk fun H1 S1=>?_⟩
  obtain⟨st,ws,nG,hf⟩:=ht.same S1
  obtain⟨pk,jb,rfl⟩:=bf.mp hk
  refine⟨_,rfl,BV nG hf st (fun z=>absurd al z) fun d gb H2 hd S2 h2 _ hl=>?_⟩
  obtain⟨a,ea,ha⟩:=hl al pk jb
  refine⟨_,rfl,d,.ref a,rfl,?_,q a H2 (S1.trans S2) ha⟩
  rw[<-ea];exact gJ.k (k:=Sum.inr pk.1) h2
@[irreducible] def tD:Sp:=fun vs H Q _=>∃ (t:Addr) (aa:aK) (a b:Str),vs = [.ref t,.str a,.str b]/\FA H t aa/\eG aa/\a∈keysOf aa/\b∈keysOf aa/\b ∉ de aa a /\ ∀H',ak H H'->Q .aD H'
theorem YN {t:Addr}{aa:aK}{a b:Str}{H:Hp}{Q:VK}{E:XK} (ht:FA H t aa) (al:eG aa) (ha:a∈keysOf aa) (hb:b∈keysOf aa) (hn:b ∉ de aa a) (q:∀H',ak H H'->Q .aD H'):tD [.ref t,.str a,.str b] H Q E:=by unfold tD;exact⟨t,aa,a,b,rfl,ht,al,ha,hb,hn,q⟩
abbrev nWa:List Str:= ["family", "a", "b", "lines", "above", "way"]
theorem OL:bZ nWa ["family", "a", "b"] (ay tH):=⟨rfl,rfl,rfl,by decide +kernel,rfl,by decide +kernel,by decide +kernel⟩
theorem YO {C fC fL:Addr}{pB nE:FuncData} (F:aZ K "way_of" "way_of" tH f fd) (GC:aG P w K mg base aL 3 fC pB ["family", "thing"] lB) (kC:keepIn K (.ref fC)=true) (bC:Binds K pB ["family", "thing"] []) (mC:mg "check_kind" = some (.ref fC))
  (GL:aG P w K mg base (c8 P w) 5 fL nE ["family"] (n8 C)) (kL:keepIn K (.ref fL)=true) (bL:Binds K nE ["family"] []) (mL:mg "lines_of" = some (.ref fL)):aG P w K mg base aL 6 f fd ["family", "a", "b"] tD:=by
 refine F.ok OL (fun vs H Q E h=>?_) (fun cdv A outer s H vs Q E hr h=>?_)
 ·unfold tD at h;obtain⟨t,aa,a,b,rfl,_⟩:=h;rfl
 ·unfold tD at h
  obtain⟨t,aa,a,b,rfl,ht,al,ha,hb,hn,q⟩:=h
  have hu:=hr.units
  have eu:=nP (nQ (show 1<=64 by decide) _) hu
  have j6:aT 5 _:=hr
  have jL:aT 3 _:=j6.mono (by decide)
  refine⟨_,aC (fc (aR GC jL rfl mC kC bC .nil aV (ae (pv 0) (ae (pv 1) ai))))
   (aC (fc (aR GC jL rfl mC kC bC .nil aV (ae (pv 0) (ae (pv 2) ai))))
   (aC (a9 (i:=3) OL.nd rfl (Or.inr rfl) (aR GL j6 rfl mL kL bL .nil vw (ae (pv 0) ai)))
   (aC (cN (cE u0 (pv 2) (nZ eu (pv 3) (pv 1) (fun _ _=>rfl)) rfl) (aM (bo iE)) cM)
   rT))),?_⟩
  refine⟨_,rfl,_,rfl,si ht ha fun H1 S1=>?_⟩
  refine⟨_,rfl,_,rfl,si (ht.same S1) hb fun H1' rn=>?_⟩
  have S1:=S1.trans rn
  obtain⟨st,ws,nG,hf⟩:=ht.same S1
  obtain⟨pk,jb,rfl⟩:=bf.mp ha
  refine⟨_,rfl,BV nG hf st (fun z=>absurd al z) fun d gb H2 hd S2 h2 _ hl=>?_⟩
  obtain⟨x0,ea,lW⟩:=hl al pk jb
  refine⟨_,rfl,_,rfl,_,rfl,d,.ref x0,rfl,by rw[<-ea];exact gJ.k (k:=Sum.inr pk.1) h2,?_⟩
  refine⟨x0,_,rfl,.inr (aJ.of lW),rfl,jN _,_,rfl,?_⟩
  rw[ke]
  exact ite_tt (by simpa using hn) (q _ (S1.trans S2))
@[irreducible] def sO:Sp:=fun vs H Q _=>∃ (t b:Addr) (aa:aK) (xs:List Str),vs = [.ref t,.ref b]/\FA H t aa/\H b=some (.tup (xs.map V.str))/\xs.Nodup/\xs.length<=4/\(∀x∈xs,x∈keysOf aa) /\ ∀H',ak H H'->Q (.bl true) H'
theorem X0 {t b:Addr}{aa:aK}{xs:List Str}{H:Hp}{Q:VK}{E:XK} (ht:FA H t aa) (hb:H b=some (.tup (xs.map V.str))) (nd:xs.Nodup) (h4:xs.length<=4) (bg:∀x∈xs,x∈keysOf aa) (q:∀H',ak H H'->Q (.bl true) H'):sO [.ref t,.ref b] H Q E:=by
 unfold sO;exact⟨t,b,aa,xs,rfl,ht,hb,nd,h4,bg,q⟩
theorem YQ:bZ ["family", "thing"] ["family", "thing"] (ay oE):=⟨rfl,rfl,rfl,by decide +kernel,rfl,by decide +kernel,by decide +kernel⟩
abbrev ZC:Expr:=ig (wo (cw (aQ oE) 1))
theorem Nb:cf ["family", "thing"] (ay oE) ["parent", "family"] [none,some 0] (cR ZC):=⟨rfl,by decide +kernel,by decide +kernel,rfl,d7 (by decide +kernel),by decide +kernel⟩
theorem X1 {fK fR:Addr}{dK dR:FuncData}{tk:Tok} (F:aZ K "are_parents" "are_parents" oE f fd) (B:eK mg) (mM:mg "MOST_PARENTS" = some (.int 4 tk)) (GK:aG P w K mg base aL 2 fK dK ["family", "thing"] oA) (kK:keepIn K (.ref fK)=true) (bK:Binds K dK ["family", "thing"] []) (mK:mg "is_kind" = some (.ref fK))
  (GR:aG P w K mg base aL 2 fR dR ["thing"] tP) (kR:keepIn K (.ref fR)=true) (bR:Binds K dR ["thing"] []) (mR:mg "is_row" = some (.ref fR)):aG P w K mg base aL 3 f fd ["family", "thing"] sO:=by
 refine F.ok YQ (fun vs H Q E h=>?_) (fun cdv A outer s H vs Q E hr h=>?_)
 ·unfold sO at h;obtain⟨t,b,aa,xs,rfl,_⟩:=h;rfl
 ·unfold sO at h
  obtain⟨t,b,aa,xs,rfl,ht,hb,nd,h4,bg,q⟩:=h
  have jI:aT 2 _:=hr
  refine⟨_,aC (cN (PW.pt (pw_or (iX (ib (aR GR jI rfl mR kR bR .nil aV (ae (pv 1) ai)))) (pw_or1 (cE Nk (bx iU rfl B.len hW (ae (pv 1) ai)) (Mh (v:= .int 4) rfl mM ⟨tk,rfl⟩) (cP _))))) (aM (bo km)) cM)
   (aM (bo (bx (yv rfl) rfl B.all boot_all (ae (ff rfl Nb (mr (pv 1)) (fun s H fp=>⟨a8 (i:=0) Nb.nd rfl (Or.inl rfl),iC,aR GK jI rfl mK kK bK .nil aV (ae (pv 1) (ae (pv 0) ai))⟩)) ai)))),?_⟩
  have nm:∀x∈xs,Nm x:=fun x hx=>ht.1.Hx (bg x hx)
  refine⟨_,rfl,rw_sp hb nm nd (by omega) fun H1 S1=>⟨true,rfl,?_⟩⟩
  have gB:=S1 _ _ hb
  refine⟨_,rfl,b,_,rfl,.inr (aJ.of gB),_,4,rfl,rfl,_,rfl,?_⟩
  refine ite_ff (je (by rw[aE];omega)) ?_
  refine⟨_,rfl,b,rfl,⟨_,aJ.of gB⟩,fun p hp=>?_⟩
  refine mq (xs:=xs.map V.str) (fun i ys τ H2=>∃t0:Option V,τ = [t0,some (.ref t)]/\ys=(List.replicate i true).map V.bl/\ak H1 H2/\H2 p=some (.lst ys)) ⟨none,rfl,rfl,aF hp,ag⟩ (fun i ys τ H2 ⟨_,_,_,z,z2⟩=>⟨z2,aJ.of (z _ _ gB)⟩) ?_ ?_
  ·rintro i x ys τ H2 hx ⟨t0,rfl,rfl,S2,h2⟩
   have b6:i < (xs.map V.str).length:=(b9.mp hx).1
   have fX:i < xs.length:=by simpa using b6
   obtain rfl:V.str xs[i]=x:=by simpa [fX] using hx
   have hm:=iT fX
   refine⟨_,rfl,_,rfl,Cc (ht.same (S1.trans S2)) (nm _ hm) fun H3 S3=>⟨S3 _ _ h2,by rw[aE,JI,aI];omega,cw_next b6 ⟨_,rfl,?_,fun b u e=>?_,ag⟩⟩⟩
   ·rw[gO (bg _ hm),Ug,bV];rfl
   ·rw[ah (ao e hp)];exact S3 _ _ (S2 _ _ e)
  ·rintro ys τ H2 ⟨t0,rfl,rfl,S2,h2⟩
   refine⟨p,_,rfl,aj.of h2,?_⟩
   have:(List.replicate (xs.map V.str).length true).all id=true:=by simp
   rw[this]
   exact q _ (S1.trans S2)
@[irreducible] def qx:Sp:=fun vs H Q _=>∃ (t b:Addr) (aa:aK) (xs:List Str),vs = [.ref t,.ref b]/\FA H t aa/\H b=some (.tup (xs.map V.str))/\xs.Nodup/\xs.length<=4/\(∀x∈xs,x∈keysOf aa) /\ ∀H',ak H H'->Q .aD H'
theorem NG {t b:Addr}{aa:aK}{xs:List Str}{H:Hp}{Q:VK}{E:XK} (ht:FA H t aa) (hb:H b=some (.tup (xs.map V.str))) (nd:xs.Nodup) (h4:xs.length<=4) (bg:∀x∈xs,x∈keysOf aa) (q:∀H',ak H H'->Q .aD H'):qx [.ref t,.ref b] H Q E:=by
 unfold qx;exact⟨t,b,aa,xs,rfl,ht,hb,nd,h4,bg,q⟩
theorem abb:bZ ["family", "thing"] ["family", "thing"] (ay sv):=⟨rfl,rfl,rfl,by decide +kernel,rfl,by decide +kernel,by decide +kernel⟩
theorem ZD {fA:Addr}{dA:FuncData} (F:aZ K "check_parents" "check_parents" sv f fd) (GA:aG P w K mg base aL 3 fA dA ["family", "thing"] sO) (kA:keepIn K (.ref fA)=true) (bA:Binds K dA ["family", "thing"] []) (mA:mg "are_parents" = some (.ref fA)):aG P w K mg base aL 4 f fd ["family", "thing"] qx:=by
 refine F.ok abb (fun vs H Q E h=>?_) (fun cdv A outer s H vs Q E hr h=>?_)
 ·unfold qx at h;obtain⟨t,b,aa,xs,rfl,_⟩:=h;rfl
 ·unfold qx at h
  obtain⟨t,b,aa,xs,rfl,ht,hb,nd,h4,bg,q⟩:=h
  refine⟨_,aM (cN (iX (ib (aR GA hr rfl mA kA bA .nil aV (ae (pv 0) (ae (pv 1) ai))))) rT cM),?_⟩
  exact⟨_,rfl,_,rfl,X0 ht hb nd h4 bg fun H1 S1=>⟨true,rfl,q H1 S1⟩⟩
end
end aX
namespace aX
open PySem L2 PySem.W HT
theorem cJ.congr {aa ik:aK} (h:∀p,p∈aa->p∈ik) {k:Str}{l:List Str} (z:cJ aa k l):cJ ik k l:=by
 induction z with
 | mk hm hx hg ih=>exact .mk (h _ hm) ih hg
theorem BZ {aa ik:aK} (p:ik.Perm aa) {k:Str}{l:List Str}:cJ ik k l ↔ cJ aa k l:=⟨cJ.congr fun _ h=>p.mem_iff.mp h,cJ.congr fun _ h=>p.mem_iff.mpr h⟩
theorem bp.perm {aa ik:aK} (s:bp aa) (p:ik.Perm aa):bp ik:=by
 refine⟨(p.map _).nodup_iff.mpr s.nd,by rw[p.length_eq];exact s.bb,fun q h=>s.nm q (p.mem_iff.mp h),fun q h x hx=>?_,fun q h=>s.four q (p.mem_iff.mp h),fun q h=>s.j5 q (p.mem_iff.mp h)⟩
 obtain⟨r,hr,e⟩:=s.up q (p.mem_iff.mp h) x hx
 exact⟨r,p.mem_iff.mpr hr,e⟩
theorem Nc {aa:aK} (s:bp aa) {k:Str}:Ln aa k ↔ ∃l,cJ aa k l:=⟨fun h=>⟨_,h⟩,fun⟨_,h⟩=>h.ln s⟩
theorem yM {aa ik:aK} (s:bp aa) (p:ik.Perm aa) {k:Str}:Ln ik k ↔ Ln aa k:=by
 rw[Nc s,Nc (s.perm p)]
 exact⟨fun⟨l,h⟩=>⟨l,(BZ p).mp h⟩,fun⟨l,h⟩=>⟨l,(BZ p).mpr h⟩⟩
theorem sj {aa ik:aK} (s:bp aa) (p:ik.Perm aa):eG ik ↔ eG aa:=⟨fun h q hq=>(yM s p).mp (h q (p.mem_iff.mpr hq)),fun h q hq=>(yM s p).mpr (h q (p.mem_iff.mp hq))⟩
def j7 (aa:aK):Prop:=(aa.map (·.1)).Pairwise fun a b=>gN a b=true
theorem bu.keyed {H:Hp}{vs:List V}{aa:List (Str×List Str)} (h:bu H vs aa):∃kvs,vE H 1 vs kvs/\kvs.map (·.1)=aa.map fun p=>[p.1]:=by
 induction h with
 | nil=>exact⟨[],.nil,rfl⟩
 | @cons y p _ _ hp _ ih =>
  obtain⟨a,b,e,q,r⟩:=hp
  obtain⟨kvs,h1,h2⟩:=ih
  exact⟨([p.1],[.ref b])::kvs,.cons ⟨a,e,q,rfl⟩ h1,by rw[cD,cD,h2]⟩
theorem K4 {H:Hp}:∀ {vs:List V}{aa:List (Str×List Str)}{kvs:List (List Str×List V)},bu H vs aa->vE H 1 vs kvs->kvs.map (·.1)=aa.map fun p=>[p.1]
 | _,_,_,.nil,.nil=>rfl
 | _,_,_,.cons ⟨a,b,e,q,r⟩ t,.cons (b:=kv) ⟨a',e',q',l'⟩ t'=>by
  have ea:a=a':=by rw[e]at e';cases e';rfl
  subst ea
  rw[q]at q'
  rw[cD,cD,K4 t t']
  obtain⟨ks,rest⟩:=kv
  match ks,l' with
  | [k],_ =>
   injection (gF q') with z
   injection z with z1 z2
   injection z1 with z3
   rw[z3]
theorem V4 {aa:List (Str×List Str)} (h:(aa.map (·.1)).Nodup):(aa.map fun p=>[p.1]).Nodup:=by
 have:(aa.map fun p=>[p.1])=(aa.map (·.1)).map fun x=>[x]:=by rw[nO];rfl
 rw[this]
 exact AX.mpr (h.imp fun {a b} n e=>n (by injection e))
def cg (aa:aK) (k:Str):aK:=aa.filter fun p=>!decide (p.1=k)
def b8 (aa:aK) (k:Str) (ps:List Str):aK:=cg aa k ++ [(k,ps)]
section
variable {P : Program} {w : World} {K : Frag} {mg : Str -> Option Value} {base : Heap} {f : Addr} {fd : FuncData}
@[irreducible] def qy:Sp:=fun vs H Q _=>∃ (t:Addr) (aa:aK) (k:Str),vs = [.ref t,.str k]/\FA H t aa /\ ∀r cO H',ak H H'->H' r=some (.tup cO)->bu H' cO (cg aa k)->Q (.ref r) H'
theorem NH {t:Addr}{aa:aK}{k:Str}{H:Hp}{Q:VK}{E:XK} (ht:FA H t aa) (q:∀r cO H',ak H H'->H' r=some (.tup cO)->bu H' cO (cg aa k)->Q (.ref r) H'):qy [.ref t,.str k] H Q E:=by unfold qy;exact⟨t,aa,k,rfl,ht,q⟩
theorem abc:bZ ["family", "kind"] ["family", "kind"] (ay nV):=⟨rfl,rfl,rfl,by decide +kernel,rfl,by decide +kernel,by decide +kernel⟩
abbrev eWo:Expr:=ig (wo (cw (aQ nV) 0))
theorem OM:cf ["family", "kind"] (ay nV) ["pair", "kind"] [none,some 1] (cR eWo):=⟨rfl,by decide +kernel,by decide +kernel,rfl,d7 (by decide +kernel),by decide +kernel⟩
theorem ZE (F:aZ K "without_kind" "without_kind" nV f fd) (B:eK mg):aG P w K mg base aL 1 f fd ["family", "kind"] qy:=by
 refine F.ok abc (fun vs H Q E h=>?_) (fun cdv A outer s H vs Q E hr h=>?_)
 ·unfold qy at h;obtain⟨t,aa,k,rfl,_⟩:=h;rfl
 ·unfold qy at h
  obtain⟨t,aa,k,rfl,⟨st,ws,ht,hf⟩,q⟩:=h
  have hl:=st.bb
  refine⟨_,aM (bo (fb j' rfl B.tuple boot_tuple (ae (ff rfl OM (mr (pv 0)) (fun s H fp=>⟨a8 (i:=0) OM.nd rfl (Or.inl rfl),jl (cE vN (cz (vj K rfl) (pv 0) aP (fun _ _=>rfl)) (pv 1) (cP _)),pv 0⟩)) ai))),?_⟩
  have hlen:=hf.length
  refine⟨_,rfl,t,rfl,⟨_,aJ.of ht⟩,fun c hc=>?_⟩
  refine mq (xs:=ws) (fun i ys τ H1=>∃t0:Option V,τ = [t0,some (.str k)]/\bu H ys (cg (aa.take i) k)/\H1=upd H c (.lst ys)) ⟨none,rfl,.nil,rfl⟩ (fun i ys τ H1 ⟨_,_,_,z⟩=>by rw[z];exact⟨ag,aJ.of (by rw[ah (ao ht hc)];exact ht)⟩) ?_ ?_
  ·rintro i x ys τ H1 hx ⟨t0,rfl,F1,rfl⟩
   have aS:i < ws.length:=(b9.mp hx).1
   obtain⟨p,hp,a,b,rfl,ha,hb⟩:=jR hf hx
   have tk:aa.take (i+1)=aa.take i ++ [p]:=by rw[dz,hp];rfl
   refine⟨_,rfl,a,_,0,.str p.1,rfl,rfl,aJ.of (by rw[ah (ao ha hc)];exact ha),(show ee [V.str p.1,V.ref b] ((0:Nat):Int)=some (.str p.1) from eO rfl),_,rfl,rfl,_,rfl,?_⟩
   refine eF (fun bc=>?_) (fun bc=>?_)
   ·have i5:p.1≠k:=fun z=>by rw[z]at bc;simp at bc
    refine⟨_,rfl,ag,?_,cw_next aS ⟨_,rfl,?_,by rw[jo]⟩⟩
    ·have h1:=F1.length
     have h2:(cg (aa.take i) k).length<=(aa.take i).length:=gP _ _
     rw[dq]at h2
     rw[aI];omega
    ·have e1:cg (aa.take (i+1)) k=cg (aa.take i) k ++ [p]:=by rw[tk];unfold cg;rw[ji,pQ (by simpa using i5)];rfl
     rw[e1]
     exact bu.append F1 ha hb
   ·have i5:p.1=k:=by
     by_cases z:p.1=k
     ·exact z
     ·exact absurd (by simp[z]) bc
    refine cw_next aS ⟨_,rfl,?_,rfl⟩
    have e1:cg (aa.take (i+1)) k=cg (aa.take i) k:=by rw[tk];unfold cg;rw[ji,rL (by simpa using i5)];simp
    rw[e1];exact F1
  ·rintro ys τ H1 ⟨t0,rfl,F1,rfl⟩
   rw[hlen,d5]at F1
   refine⟨c,_,rfl,.inl ⟨aj.of ag,fun r hr=>?_⟩⟩
   have S:=(aF (o:= .lst ys) hc).trans (aF (o:= .tup ys) hr)
   exact q r ys _ S ag (F1.same S)
@[irreducible] def qz (C:Addr):Sp:=fun vs H Q E=>∃ (t pa:Addr) (aa:aK) (k:Str) (ps:List Str),vs = [.ref t,.str k,.ref pa]/\FA H t aa/\H pa=some (.tup (ps.map V.str))/\bp (b8 aa k ps) /\
 (¬ eG (b8 aa k ps) -> ∀a H',ak H H'->oK C H' a->E (.ref C) (some a) H') /\ ∀t' told H',ak H H'->FA H' t' told->told.Perm (b8 aa k ps)->j7 told->lN told->Q (.ref t') H'
theorem NI {C t pa:Addr}{aa:aK}{k:Str}{ps:List Str}{H:Hp}{Q:VK}{E:XK} (ht:FA H t aa) (hp:H pa=some (.tup (ps.map V.str))) (st:bp (b8 aa k ps)) (qn : ¬ eG (b8 aa k ps) -> ∀a H',ak H H'->oK C H' a->E (.ref C) (some a) H')
  (q:∀t' told H',ak H H'->FA H' t' told->told.Perm (b8 aa k ps)->j7 told->lN told->Q (.ref t') H'):qz C [.ref t,.str k,.ref pa] H Q E:=by
 unfold qz;exact⟨t,pa,aa,k,ps,rfl,ht,hp,st,qn,q⟩
abbrev nWp:List Str:= ["family", "kind", "parents", "told"]
theorem ON:bZ nWp ["family", "kind", "parents"] (ay sX):=⟨rfl,rfl,rfl,by decide +kernel,rfl,by decide +kernel,by decide +kernel⟩
theorem ZF {C fW fL:Addr}{dW dL:FuncData} (F:aZ K "with_parents" "with_parents" sX f fd) (B:eK mg) (B2:jz mg) (GW:aG P w K mg base aL 1 fW dW ["family", "kind"] qy) (kW:keepIn K (.ref fW)=true) (bW:Binds K dW ["family", "kind"] []) (mW:mg "without_kind" = some (.ref fW))
  (GL:aG P w K mg base (c8 P w) 5 fL dL ["family"] (n8 C)) (kL:keepIn K (.ref fL)=true) (bL:Binds K dL ["family"] []) (mL:mg "lines_of" = some (.ref fL)):aG P w K mg base (c8 P w) 6 f fd ["family", "kind", "parents"] (qz C):=by
 refine F.ur ON (fun vs H Q E h=>?_) (fun cdv A outer s H vs Q E hr h=>?_)
 ·unfold qz at h;obtain⟨t,pa,aa,k,ps,rfl,_⟩:=h;rfl
 ·unfold qz at h
  obtain⟨t,pa,aa,k,ps,rfl,ht,hp,st,qn,q⟩:=h
  have j6:aT 5 _:=hr
  have cC:aT 1 _:=j6.mono (by decide)
  refine⟨_,aC (a9 (i:=3) ON.nd rfl (Or.inl rfl) (fb j' rfl B.tuple boot_tuple (ae (bx UA rfl B2.sorted boot_sorted (ae (cH Mt (aR GW cC rfl mW kW bW .nil aV (ae (pv 0) (ae (pv 1) ai))) (mw (ae (mw (ae (pv 1) (ae (pv 2) ai))) ai))) ai)) ai)))
   (aC (fc (aR GL j6 rfl mL kL bL .nil CG (ae (pv 3) ai)))
   (aM (bo (pv 3)))),?_⟩
  have bb:=st.bb
  rw[show(b8 aa k ps).length=(cg aa k).length+1 from c9]at bb
  refine⟨_,rfl,_,rfl,NH ht fun r cO H1 S1 h1 F1=>?_⟩
  refine⟨_,rfl,_,rfl,by show 2<=sizeLine;rw[aI];decide,fun c1 Am=>⟨by show 1<=sizeLine;rw[aI];decide,fun c2 gy=>?_⟩⟩
  have T1:=aF (o:= .tup [V.str k,.ref pa]) Am
  have T2:=T1.trans (aF (o:= .tup [V.ref c1]) gy)
  have S2:=S1.trans T2
  have zE:=F1.length
  refine⟨r,c2,_,_,rfl,rfl,T2 _ _ h1,ag,by rw[aI];show _+1<=_;omega,fun c3 H3 S3 h3=>?_⟩
  have abd:upd (upd H1 c1 (.tup [V.str k,.ref pa])) c2 (.tup [V.ref c1]) c1=some (.tup [V.str k,.ref pa]):=by rw[ah (ao ag gy)];exact ag
  have F3:bu H3 (cO ++ [.ref c1]) (b8 aa k ps):=bu.append (F1.same (T2.trans S3)) (S3 _ _ abd) (S3 _ _ (S2 _ _ hp))
  have S03:=S2.trans S3
  obtain⟨kvs,K3,ek⟩:=F3.keyed
  refine⟨c3,_,kvs,1,rfl,.inr (aJ.of h3),K3,aN _,by rw[ek];exact V4 st.nd,by rw[c9,j9];omega,fun D eg dw hD gr hK jb uG=>?_⟩
  obtain⟨told,jc,F4⟩:=Ky gr F3
  rw[K4 F4 hK]at uG
  have so:j7 told:=by
   unfold j7
   rw[AX]at uG ⊢
   exact uG.imp fun {a b} z=>by rw[XC]at z;exact z
  have SD:=aF (o:= .lst eg) hD
  refine⟨D,eg,rfl,.inl ⟨aj.of ag,fun t' ht'=>?_⟩⟩
  have St:=SD.trans (aF (o:= .tup eg) ht')
  have Q7:=S03.trans St
  have F5:=bu.same F4 St
  have gX:=st.perm jc
  refine⟨_,rfl,BV ag F5 gX (fun na a H5 S5 r5=>qn (fun z=>na ((sj st jc).mpr z)) a H5 (Q7.trans S5) r5) fun d gb H5 hd S5 h5 fr _=>?_⟩
  exact⟨_,rfl,q t' told H5 (Q7.trans S5) ⟨gX,eg,S5 _ _ ag,F5.same S5⟩ jc so fr⟩
@[irreducible] def tQ (C:Addr):Sp:=fun vs H Q E=>∃ (t pa:Addr) (aa:aK) (k:Str) (ps:List Str),vs = [.ref t,.str k,.ref pa]/\FA H t aa/\eG aa/\k∈keysOf aa/\H pa=some (.tup (ps.map V.str))/\ps.Nodup/\ps.length<=4/\(∀x∈ps,x∈keysOf aa)/\(∀x∈ps,k ∉ de aa x)/\bp (b8 aa k ps) /\
 (¬ eG (b8 aa k ps) -> ∀a H',ak H H'->oK C H' a->E (.ref C) (some a) H') /\ ∀t' told H',ak H H'->FA H' t' told->told.Perm (b8 aa k ps)->j7 told->lN told->Q (.ref t') H'
theorem CP {C t pa:Addr}{aa:aK}{k:Str}{ps:List Str}{H:Hp}{Q:VK}{E:XK} (ht:FA H t aa) (al:eG aa) (hk:k∈keysOf aa) (hp:H pa=some (.tup (ps.map V.str))) (j5:ps.Nodup) (h4:ps.length<=4) (bg:∀x∈ps,x∈keysOf aa) (eP:∀x∈ps,k ∉ de aa x) (st:bp (b8 aa k ps))
  (qn : ¬ eG (b8 aa k ps) -> ∀a H',ak H H'->oK C H' a->E (.ref C) (some a) H') (q:∀t' told H',ak H H'->FA H' t' told->told.Perm (b8 aa k ps)->j7 told->lN told->Q (.ref t') H'):tQ C [.ref t,.str k,.ref pa] H Q E:=by
 unfold tQ;exact⟨t,pa,aa,k,ps,rfl,ht,al,hk,hp,j5,h4,bg,eP,st,qn,q⟩
abbrev nKc:List Str:= ["family", "kind", "parents", "parent", "way"]
theorem DC:bZ nKc ["family", "kind", "parents"] (ay sf):=⟨rfl,rfl,rfl,by decide +kernel,rfl,by decide +kernel,by decide +kernel⟩
theorem ZG {C fC fQ fY fW:Addr}{dC dQ dY dW:FuncData} (F:aZ K "kind_changed" "kind_changed" sf f fd) (GC:aG P w K mg base aL 3 fC dC ["family", "thing"] lB) (kC:keepIn K (.ref fC)=true) (bC:Binds K dC ["family", "thing"] []) (mC:mg "check_kind" = some (.ref fC))
  (GQ:aG P w K mg base aL 4 fQ dQ ["family", "thing"] qx) (kQ:keepIn K (.ref fQ)=true) (bQ:Binds K dQ ["family", "thing"] []) (mQ:mg "check_parents" = some (.ref fQ))
  (GY:aG P w K mg base aL 6 fY dY ["family", "a", "b"] tD) (kY:keepIn K (.ref fY)=true) (bY:Binds K dY ["family", "a", "b"] []) (mY:mg "way_of" = some (.ref fY))
  (GW:aG P w K mg base (c8 P w) 6 fW dW ["family", "kind", "parents"] (qz C)) (kW:keepIn K (.ref fW)=true) (bW:Binds K dW ["family", "kind", "parents"] []) (mW:mg "with_parents" = some (.ref fW)):aG P w K mg base (c8 P w) 7 f fd ["family", "kind", "parents"] (tQ C):=by
 refine F.ur DC (fun vs H Q E h=>?_) (fun cdv A outer s H vs Q E hr h=>?_)
 ·unfold tQ at h;obtain⟨t,pa,aa,k,ps,rfl,_⟩:=h;rfl
 ·unfold tQ at h
  obtain⟨t,pa,aa,k,ps,rfl,ht,al,hk,hp,j5,h4,bg,eP,st,qn,q⟩:=h
  have gE:aT 6 _:=hr
  have rq:aT 4 _:=gE.mono (by decide)
  have jL:aT 3 _:=gE.mono (by decide)
  refine⟨_,aC (fc (aR GC jL rfl mC kC bC .nil aV (ae (pv 0) (ae (pv 1) ai))))
   (aC (fc (aR GQ rq rfl mQ kQ bQ .nil aV (ae (pv 0) (ae (pv 2) ai))))
   (aC (jr Ke rfl (mr (pv 2)) (a8 (i:=3) DC.nd rfl (Or.inl rfl))
    (aC (a9 (i:=4) DC.nd rfl (Or.inl rfl) (aR GY gE rfl mY kY bY .nil aV (ae (pv 0) (ae (pv 3) (ae (pv 1) ai)))))
    (aM (cN (cE W9 (pv 4) iE (cP _)) rT cM))))
   (aM (bo (aR GW gE rfl mW kW bW .nil CG (ae (pv 0) (ae (pv 1) (ae (pv 2) ai)))))))),?_⟩
  refine⟨_,rfl,_,rfl,si ht hk fun H1 S1=>?_⟩
  refine⟨_,rfl,_,rfl,NG (ht.same S1) (S1 _ _ hp) j5 h4 bg fun H2 S2=>?_⟩
  have S2:=S1.trans S2
  have k7:=S2 _ _ hp
  refine⟨_,rfl,pa,rfl,⟨_,aJ.of k7⟩,W8 (xs:=ps.map V.str) (fun i σ H3=>∃v3 v4:Option V,σ = [some (.ref t),some (.str k),some (.ref pa),v3,v4]/\ak H2 H3) ⟨none,none,rfl,ak.refl _⟩ (fun i σ H3 _ ⟨_,_,_,z⟩=>aJ.of (z _ _ k7)) ?_ ?_⟩
  ·rintro i x σ H3 hx ⟨v3,v4,rfl,S3⟩
   have b6:i < (ps.map V.str).length:=(b9.mp hx).1
   have fX:i < ps.length:=by simpa using b6
   obtain rfl:V.str ps[i]=x:=by simpa [fX] using hx
   have hm:=iT fX
   refine⟨_,rfl,_,rfl,_,rfl,YN (ht.same (S2.trans S3)) al (bg _ hm) hk (eP _ hm) fun H4 S4=>?_⟩
   exact⟨_,rfl,rfl,_,rfl,_,_,rfl,S3.trans S4⟩
  ·rintro σ H3 ⟨v3,v4,rfl,S3⟩
   have Aq:=S2.trans S3
   refine⟨_,rfl,_,rfl,_,rfl,NI (ht.same Aq) (Aq _ _ hp) st (fun na a H4 S4=>qn na a H4 (Aq.trans S4)) fun t' told H4 S4=>?_⟩
   exact q t' told H4 (Aq.trans S4)
@[irreducible] def tR:Sp:=fun vs H Q _=>∃ (t pa:Addr) (aa:aK) (k:Str) (ps:List Str),vs = [.ref t,.str k,.ref pa]/\FA H t aa/\Nm k/\k ∉ keysOf aa/\H pa=some (.tup (ps.map V.str))/\ps.Nodup/\ps.length<=4/\(∀x∈ps,x∈keysOf aa)/\bp (b8 aa k ps)/\eG (b8 aa k ps) /\
 ∀t' told H',ak H H'->FA H' t' told->told.Perm (b8 aa k ps)->j7 told->Q (.ref t') H'
theorem NJ {t pa:Addr}{aa:aK}{k:Str}{ps:List Str}{H:Hp}{Q:VK}{E:XK} (ht:FA H t aa) (nm:Nm k) (hk:k ∉ keysOf aa) (hp:H pa=some (.tup (ps.map V.str))) (j5:ps.Nodup) (h4:ps.length<=4) (bg:∀x∈ps,x∈keysOf aa) (st:bp (b8 aa k ps)) (al:eG (b8 aa k ps))
  (q:∀t' told H',ak H H'->FA H' t' told->told.Perm (b8 aa k ps)->j7 told->Q (.ref t') H'):tR [.ref t,.str k,.ref pa] H Q E:=by
 unfold tR;exact⟨t,pa,aa,k,ps,rfl,ht,nm,hk,hp,j5,h4,bg,st,al,q⟩
theorem abe:bZ ["family", "kind", "parents"] ["family", "kind", "parents"] (ay sV):=⟨rfl,rfl,rfl,by decide +kernel,rfl,by decide +kernel,by decide +kernel⟩
theorem ZH {C fC fK fQ fW:Addr}{dC dK dQ dW:FuncData} (F:aZ K "kind_made" "kind_made" sV f fd) (GC:aG P w K mg base aL 2 fC dC ["thing"] tx) (kC:keepIn K (.ref fC)=true) (bC:Binds K dC ["thing"] []) (mC:mg "check_name" = some (.ref fC))
  (GK:aG P w K mg base aL 2 fK dK ["family", "thing"] oA) (kK:keepIn K (.ref fK)=true) (bK:Binds K dK ["family", "thing"] []) (mK:mg "is_kind" = some (.ref fK))
  (GQ:aG P w K mg base aL 4 fQ dQ ["family", "thing"] qx) (kQ:keepIn K (.ref fQ)=true) (bQ:Binds K dQ ["family", "thing"] []) (mQ:mg "check_parents" = some (.ref fQ))
  (GW:aG P w K mg base (c8 P w) 6 fW dW ["family", "kind", "parents"] (qz C)) (kW:keepIn K (.ref fW)=true) (bW:Binds K dW ["family", "kind", "parents"] []) (mW:mg "with_parents" = some (.ref fW)):aG P w K mg base aL 7 f fd ["family", "kind", "parents"] tR:=by
 refine F.ok abe (fun vs H Q E h=>?_) (fun cdv A outer s H vs Q E hr h=>?_)
 ·unfold tR at h;obtain⟨t,pa,aa,k,ps,rfl,_⟩:=h;rfl
 ·unfold tR at h
  obtain⟨t,pa,aa,k,ps,rfl,ht,nm,hk,hp,j5,h4,bg,st,al,q⟩:=h
  have gE:aT 6 _:=hr
  have rq:aT 4 _:=gE.mono (by decide)
  have jI:aT 2 _:=gE.mono (by decide)
  refine⟨_,aC (fc (aR GC jI rfl mC kC bC .nil aV (ae (pv 1) ai)))
   (aC (cN (ib (aR GK jI rfl mK kK bK .nil aV (ae (pv 0) (ae (pv 1) ai)))) rT cM)
   (aC (fc (aR GQ rq rfl mQ kQ bQ .nil aV (ae (pv 0) (ae (pv 2) ai))))
   (aM (bo (aR GW gE rfl mW kW bW .nil vw (ae (pv 0) (ae (pv 1) (ae (pv 2) ai)))))))),?_⟩
  refine⟨_,rfl,YL nm fun H1 S1=>?_⟩
  refine⟨_,rfl,_,rfl,Cc (ht.same S1) nm fun H2 S2=>⟨false,?_,?_⟩⟩
  ·rw[je hk]
  have S2:=S1.trans S2
  refine⟨_,rfl,_,rfl,NG (ht.same S2) (S2 _ _ hp) j5 h4 bg fun H3 S3=>?_⟩
  have S3:=S2.trans S3
  refine⟨_,rfl,_,rfl,_,rfl,NI (ht.same S3) (S3 _ _ hp) st (fun na=>absurd al na) fun t' told H4 S4 ft pm so _=>?_⟩
  exact q t' told H4 (S3.trans S4) ft pm so
def f7 (aa:aK) (k:Str):List Str:=(aa.filter fun p=>decide (k∈p.2)).map (·.1)
@[irreducible] def sG:Sp:=fun vs H Q _=>∃ (t:Addr) (aa:aK) (k:Str),vs = [.ref t,.str k]/\FA H t aa/\k∈keysOf aa /\ ∀ (l:Addr) (ss:List Str) (H':Hp),ak H H'->H' l=some (.lst (ss.map V.str))->ss.Perm (f7 aa k)->Q (.ref l) H'
theorem W0 {t:Addr}{aa:aK}{k:Str}{H:Hp}{Q:VK}{E:XK} (ht:FA H t aa) (hk:k∈keysOf aa) (q:∀ (l:Addr) (ss:List Str) (H':Hp),ak H H'->H' l=some (.lst (ss.map V.str))->ss.Perm (f7 aa k)->Q (.ref l) H'):sG [.ref t,.str k] H Q E:=by unfold sG;exact⟨t,aa,k,rfl,ht,hk,q⟩
theorem abf:bZ ["family", "kind"] ["family", "kind"] (ay oi):=⟨rfl,rfl,rfl,by decide +kernel,rfl,by decide +kernel,by decide +kernel⟩
abbrev eHe:Expr:=ig (wo (cw (aQ oi) 1))
theorem DD:cf ["family", "kind"] (ay oi) ["other", "parents", "kind"] [none,none,some 1] (cR eHe):=⟨rfl,by decide +kernel,by decide +kernel,rfl,d7 (by decide +kernel),by decide +kernel⟩
theorem W2 {fC:Addr}{pB:FuncData} (F:aZ K "heirs_of" "heirs_of" oi f fd) (B2:jz mg) (GC:aG P w K mg base aL 3 fC pB ["family", "thing"] lB) (kC:keepIn K (.ref fC)=true) (bC:Binds K pB ["family", "thing"] []) (mC:mg "check_kind" = some (.ref fC)) :
  aG P w K mg base aL 4 f fd ["family", "kind"] sG:=by
 refine F.ok abf (fun vs H Q E h=>?_) (fun cdv A outer s H vs Q E hr h=>?_)
 ·unfold sG at h;obtain⟨t,aa,k,rfl,_⟩:=h;rfl
 ·unfold sG at h
  obtain⟨t,aa,k,rfl,hA,hk,q⟩:=h
  obtain⟨ok,ws,ht,hf⟩:=id hA
  have hu:=hr.units
  have jL:aT 3 _:=hr
  refine⟨_,aC (fc (aR GC jL rfl mC kC bC .nil aV (ae (pv 0) (ae (pv 1) ai))))
   (aM (bo (bx Uz rfl B2.sorted boot_sorted (ae (ff rfl DD (mr (pv 0)) (fun s H fp=>⟨Mb (n:=2) K rfl rfl (gQ (a8 (i:=0) DD.nd rfl (Or.inl rfl)) (gQ (a8 (i:=1) DD.nd rfl (Or.inl rfl)) nY)),
    jl (cE (B8 K rfl) (pv 2) (pv 1) rfl),pv 0⟩)) ai)))),?_⟩
  refine⟨_,rfl,_,rfl,si hA hk fun H1 S1=>?_⟩
  have hl:=hf.length
  have C7:=ok.bb
  have j3:=hf.same S1
  refine⟨_,rfl,t,rfl,⟨_,aJ.of (S1 _ _ ht)⟩,fun c hc=>?_⟩
  have ntc:t≠c:=ao (S1 _ _ ht) hc
  refine mq (xs:=ws) (fun i ys τ H2=>∃t0 t1:Option V,τ = [t0,t1,some (.str k)]/\ys=(f7 (aa.take i) k).map V.str/\H2=upd H1 c (.lst ys)) ⟨none,none,rfl,rfl,rfl⟩ (fun i ys τ H2 ⟨_,_,_,_,z⟩=>by rw[z];exact⟨ag,aJ.of (by rw[ah ntc];exact S1 _ _ ht)⟩) ?_ ?_
  ·rintro i x ys τ H2 hx ⟨t0,t1,rfl,rfl,rfl⟩
   have aS:i < ws.length:=(b9.mp hx).1
   obtain⟨p,Hy,a,b,rfl,ha,hb⟩:=jR j3 hx
   have tk:aa.take (i+1)=aa.take i ++ [p]:=by rw[dz,Hy];rfl
   have lg:upd H1 c (.lst ((f7 (aa.take i) k).map V.str)) a=some (.tup [.str p.1,.ref b]):=by rw[ah (ao ha hc)];exact ha
   have nu:upd H1 c (.lst ((f7 (aa.take i) k).map V.str)) b=some (.tup (p.2.map V.str)):=by rw[ah (ao hb hc)];exact hb
   refine⟨a,_,rfl,aJ.of lg,rfl,_,_,rfl,_,_,rfl,rfl,?_⟩
   refine⟨_,rfl,_,rfl,b,_,rfl,.inr (aJ.of nu),rfl,jN _,_,rfl,?_⟩
   rw[aq cU,ke]
   have ef:f7 (aa.take (i+1)) k=f7 (aa.take i) k++if k∈p.2 then [p.1] else []:=by
    rw[tk];unfold f7;rw[ji,bV]
    by_cases h:k∈p.2
    ·rw[aA h,pQ (by simpa using h)];rfl
    ·rw[aq h,rL (by simpa using h)];rfl
   refine eF (fun bg=>?_) (fun bg=>?_)
   ·have lM:k∈p.2:=by simpa using bg
    refine⟨_,rfl,ag,?_,cw_next aS ⟨_,_,rfl,?_,by rw[jo]⟩⟩
    ·have h2:(f7 (aa.take i) k).length<=(aa.take i).length:=by unfold f7;rw[aE];exact gP _ _
     rw[dq]at h2
     rw[aE,aI];omega
    ·rw[ef,aA lM,bV];rfl
   ·have lM : ¬ k∈p.2:=by simpa using bg
    refine cw_next aS ⟨_,_,rfl,?_,rfl⟩
    rw[ef,aq lM,eV]
  ·rintro ys τ H2 ⟨t0,t1,rfl,rfl,rfl⟩
   rw[hl,d5]
   have h2:(f7 aa k).length<=aa.length:=by unfold f7;rw[aE];exact gP _ _
   refine⟨c,_,rfl,aj.of ag,by omega,fun D ss hD gr alI=>?_⟩
   exact q D ss _ (S1.trans ((aF hc).trans (aF hD))) ag gr
@[irreducible] def qA (C:Addr):Sp:=fun vs H Q E=>∃ (t:Addr) (aa:aK) (k:Str),vs = [.ref t,.str k]/\FA H t aa/\k∈keysOf aa /\
 (f7 aa k ≠ [] -> ∀a H',ak H H'->H' a=some (dJ (some .none) C none a)->E (.ref C) (some a) H')/\(f7 aa k = [] -> ∀r cO H',ak H H'->H' r=some (.tup cO)->bu H' cO (cg aa k)->Q (.ref r) H')
theorem NK {C t:Addr}{aa:aK}{k:Str}{H:Hp}{Q:VK}{E:XK} (ht:FA H t aa) (hk:k∈keysOf aa) (qn:f7 aa k ≠ [] -> ∀a H',ak H H'->H' a=some (dJ (some .none) C none a)->E (.ref C) (some a) H')
  (q:f7 aa k = [] -> ∀r cO H',ak H H'->H' r=some (.tup cO)->bu H' cO (cg aa k)->Q (.ref r) H'):qA C [.ref t,.str k] H Q E:=by unfold qA;exact⟨t,aa,k,rfl,ht,hk,qn,q⟩
theorem abg:bZ ["family", "kind"] ["family", "kind"] (ay sN):=⟨rfl,rfl,rfl,by decide +kernel,rfl,by decide +kernel,by decide +kernel⟩
structure Nd (K:Frag) (mg:Str->Option Value) (x:Str) (C:Addr):Prop where
 q:dI K C none=true
 kp:keepIn K (.ref C)=true
 m:mg x=some (.ref C)
 x:dh K C
theorem ZI {C fC fH fW:Addr}{dC dH dW:FuncData} (F:aZ K "kind_let_go" "kind_let_go" sN f fd) (T:Nd K mg "InUse" C) (GC:aG P w K mg base aL 3 fC dC ["family", "thing"] lB) (kC:keepIn K (.ref fC)=true) (bC:Binds K dC ["family", "thing"] []) (mC:mg "check_kind" = some (.ref fC))
  (GH:aG P w K mg base aL 4 fH dH ["family", "kind"] sG) (kH:keepIn K (.ref fH)=true) (bH:Binds K dH ["family", "kind"] []) (mH:mg "heirs_of" = some (.ref fH))
  (GW:aG P w K mg base aL 1 fW dW ["family", "kind"] qy) (kW:keepIn K (.ref fW)=true) (bW:Binds K dW ["family", "kind"] []) (mW:mg "without_kind" = some (.ref fW)):aG P w K mg base (c8 P w) 5 f fd ["family", "kind"] (qA C):=by
 refine F.ur abg (fun vs H Q E h=>?_) (fun cdv A outer s H vs Q E hr h=>?_)
 ·unfold qA at h;obtain⟨t,aa,k,rfl,_⟩:=h;rfl
 ·unfold qA at h
  obtain⟨t,aa,k,rfl,ht,hk,qn,q⟩:=h
  have rq:aT 4 _:=hr
  have jL:aT 3 _:=rq.mono (by decide)
  have cC:aT 1 _:=rq.mono (by decide)
  have hu:=hr.units
  have hg:=hr.gd
  refine⟨_,aC (fc (aR GC jL rfl mC kC bC .nil aV (ae (pv 0) (ae (pv 1) ai))))
   (aC (cN (pV (aR GH rq rfl mH kH bH .nil aV (ae (pv 0) (ae (pv 1) ai))) (fun _=>rfl)) (aM (Ll (Xi T.q T.kp rfl T.m (ae (B7 (lz jq (lz (vA hu hg (pv 1)) Cj))) ai)))) cM)
   (aM (bo (aR GW cC rfl mW kW bW .nil aV (ae (pv 0) (ae (pv 1) ai)))))),?_⟩
  refine⟨_,rfl,_,rfl,si ht hk fun H1 S1=>?_⟩
  refine⟨_,rfl,_,rfl,W0 (ht.same S1) hk fun l ss H2 S2 h2 pm=>?_⟩
  have S2:=S1.trans S2
  refine⟨_,.inl ⟨_,aj.of h2,rfl⟩,?_⟩
  have nk:=ht.1.Hx hk
  refine eF (fun bc=>?_) (fun bc=>?_)
  ·refine⟨⟨_,rfl,by decide +kernel⟩,_,rfl,.inl ⟨k,rfl,cK nk.hi (by decide)⟩,fun y hy=>⟨⟨_,rfl,hy⟩,fun z hz=>⟨by show 1<=100;decide,fun e he=>?_⟩⟩⟩
   refine⟨e,C,none,none,rfl,ag,(fun d ed=>by cases ed),T.x,T.q,S2.free he,?_⟩
   refine qn (fun z0=>?_) e _ (fun b o hb=>?_) ag
   ·rw[z0]at pm
    rw[pm.eq_nil]at bc;exact absurd bc cU
   ·have nb:b≠e:=ao (S2 _ _ hb) he
    rw[ah nb,ah nb];exact S2 _ _ hb
  ·have e0:f7 aa k = []:=by
    cases ss with
    | nil=>exact pm.symm.eq_nil
    | cons _ _=>exact absurd rfl bc
   refine⟨_,rfl,_,rfl,NH (ht.same S2) fun r cO H3 S3 h3 F3=>?_⟩
   exact q e0 r cO H3 (S2.trans S3) h3 F3
end
end aX
namespace aX
open PySem L2 PySem.W HT
structure xK (aa:List (Str×List Str)) (L:Str->List Str):Prop where
 mem:∀p∈aa,∀y,y∈L p.1 ↔ y=p.1 \/ ∃x∈p.2,y∈L x
 len:∀p∈aa,∀x∈p.2,(L x).length < (L p.1).length
 le8:∀p∈aa,(L p.1).length<=8
 inn:∀p∈aa,∀y∈L p.1,∃q∈aa,q.1=y
theorem Fm.rz {ks:List Str}{L Ps:Str->List Str} (F:Fm ks L Ps) (h8:ks.length<=8):xK (f9 Ps ks) L:=by
 have mem:∀ {p:Str×List Str},p∈f9 Ps ks->p.1∈ks/\p.2=Ps p.1:=fun {p} hp=>by
  obtain⟨x,hx,rfl⟩:=bf.mp hp
  exact⟨hx,rfl⟩
 have self:∀x∈ks,x∈L x:=fun x hx=>by obtain⟨o,_,e⟩:=F.ln x hx;rw[e];exact ba
 refine⟨fun p hp y=>?_,fun p hp x hx=>?_,fun p hp=>?_,fun p hp y hy=>?_⟩
 ·obtain⟨h1,h2⟩:=mem hp
  rw[h2]
  obtain⟨o,hm,hL⟩:=F.ln _ h1
  obtain⟨n1,n2,n3⟩:=F.ps _ h1
  obtain⟨⟨_,s2⟩,_⟩:=sound _ _ rfl (fun r hr=>(F.qj n1 n3 r hr).1) o hm
  rw[hL,bq,s2]
  constructor
  ·rintro(h | ⟨r,hr,hy⟩)
   ·exact .inl h
   ·rcases yr.mp hr with⟨z,hz,rfl⟩|rfl
    ·exact .inr ⟨z,hz,hy⟩
    ·exact .inr ⟨y,hy,self y (n3 y hy)⟩
  ·rintro(h | ⟨z,hz,hy⟩)
   ·exact .inl h
   ·exact .inr ⟨L z,yr.mpr (.inl ⟨z,hz,rfl⟩),hy⟩
 ·obtain⟨h1,h2⟩:=mem hp
  rw[h2]at hx
  obtain⟨o,hm,hL⟩:=F.ln _ h1
  obtain⟨n1,_,n3⟩:=F.ps _ h1
  obtain⟨_,_,h5⟩:=F.order n1 n3 hm
  have:=len_sub (F.ld x (n3 x hx)).1 fun y hy=>h5 (L x) (yr.mpr (.inl ⟨x,hx,rfl⟩)) y hy
  rw[hL,dZ];omega
 ·obtain⟨h1,h2⟩:=mem hp
  exact cK (len_sub (F.ld _ h1).1 (F.ld _ h1).2) h8
 ·obtain⟨h1,h2⟩:=mem hp
  exact⟨(y,Ps y),bf.mpr ⟨y,(F.ld _ h1).2 y hy,rfl⟩,rfl⟩
theorem xK.trans {aa:List (Str×List Str)}{L:Str->List Str} (h:xK aa L) (up:∀p∈aa,∀x∈p.2,∃q∈aa,q.1=x):∀ (n:Nat) (p:Str×List Str),p∈aa->(L p.1).length=n -> ∀y∈L p.1,∀z∈L y,z∈L p.1:=by
 intro n
 induction n using Nat.strongRecOn with
 | _ n ih =>
  intro p hp e y hy z hz
  rcases (h.mem p hp y).mp hy with rfl | ⟨x,hx,Hz⟩
  ·exact hz
  ·obtain⟨q,hq,rfl⟩:=up p hp x hx
   have:=ih _ (by have:=h.len p hp q.1 hx;omega) q hq rfl y Hz z hz
   exact(h.mem p hp z).mpr (.inr ⟨_,hx,this⟩)
theorem xK.closed {aa:List (Str×List Str)}{L:Str->List Str} (h:xK aa L) {F:List Str} (cl:∀p∈aa,p.1∈F -> ∀x∈p.2,x∈F) (up:∀p∈aa,∀x∈p.2,∃q∈aa,q.1=x):∀ (n:Nat) (p:Str×List Str),p∈aa->(L p.1).length=n->p.1∈F -> ∀y∈L p.1,y∈F:=by
 intro n
 induction n using Nat.strongRecOn with
 | _ n ih =>
  intro p hp e hF y hy
  rcases (h.mem p hp y).mp hy with rfl | ⟨x,hx,Hz⟩
  ·exact hF
  ·obtain⟨q,hq,rfl⟩:=up p hp x hx
   exact ih _ (by have:=h.len p hp q.1 hx;omega) q hq rfl (cl p hp hF _ hx) y Hz
theorem yG {ks:List Str}{L Ps:Str->List Str} (F:Fm ks L Ps):∀p∈f9 Ps ks,∀x∈p.2,∃q∈f9 Ps ks,q.1=x:=fun p hp x hx=>by
 obtain⟨y,hy,rfl⟩:=bf.mp hp
 exact⟨(x,Ps x),bf.mpr ⟨x,(F.ps y hy).2.2 x hx,rfl⟩,rfl⟩
theorem jk {ks:List Str}{Ps:Str->List Str}{x:Str} (h:x∈ks):(x,Ps x)∈f9 Ps ks:=bf.mpr ⟨x,h,rfl⟩
theorem Fm.famSt {ks:List Str}{L Ps:Str->List Str} (F:Fm ks L Ps) (nd:ks.Nodup) (nm:∀x∈ks,Nm x) (h8:ks.length<=8) {aa:aK} (pm:aa.Perm (f9 Ps ks)):bp aa:=by
 refine bp.perm ⟨by rw[K1];exact nd,by unfold f9;rw[aE];omega,fun p hp=>?_,yG F,fun p hp=>?_,fun p hp=>?_⟩ pm
 ·obtain⟨x,hx,rfl⟩:=bf.mp hp;exact nm x hx
 ·obtain⟨x,hx,rfl⟩:=bf.mp hp;exact(F.ps x hx).2.1
 ·obtain⟨x,hx,rfl⟩:=bf.mp hp;exact(F.ps x hx).1
theorem Fm.has {ks:List Str}{L Ps:Str->List Str} (F:Fm ks L Ps) (h8:ks.length<=8) {S:Str->Prop}{aa:aK} (h:∀x∈ks,S x->(x,Ps x)∈aa /\ ∀y∈Ps x,S y):∀x∈ks,S x->cJ aa x (L x):=by
 have lp:=F.rz h8
 have key:∀n,∀x∈ks,S x->(L x).length=n->cJ aa x (L x):=by
  intro n
  induction n using Nat.strongRecOn with
  | _ n ih =>
   intro x hx sx e
   obtain⟨o,hg,hL⟩:=F.ln x hx
   obtain⟨h1,h2⟩:=h x hx sx
   have ln:∀y∈Ps x,(L y).length < (L x).length:=lp.len _ (jk hx)
   rw[hL]
   exact .mk h1 (fun y hy=>ih _ (by rw[<-e];exact ln y hy) y ((F.ps x hx).2.2 y hy) (h2 y hy) rfl) hg
 exact fun x hx sx=>key _ x hx sx rfl
theorem Fm.abh {ks:List Str}{L Ps:Str->List Str} (F:Fm ks L Ps) (h8:ks.length<=8) {aa:aK} (pm:aa.Perm (f9 Ps ks)):∀x∈ks,cJ aa x (L x):=fun x hx=>F.has h8 (S:=fun _=>True) (fun y hy _=>⟨pm.mem_iff.mpr (jk hy),fun _ _=>True.intro⟩) x hx True.intro
theorem W3 {aa:aK} (fr:lN aa) (rk:Str->Nat) (h:∀p∈aa,∀x∈p.2,rk x < rk p.1 /\ ∃q∈aa,q.1=x):eG aa:=by
 have key:∀n,∀p∈aa,rk p.1=n->Ln aa p.1:=by
  intro n
  induction n using Nat.strongRecOn with
  | _ n ih =>
   intro p hp e
   refine fr p hp fun x hx=>?_
   obtain⟨lt,q,hq,rfl⟩:=h p hp x hx
   exact ih _ (by omega) q hq rfl
 exact fun p hp=>key _ p hp rfl
theorem V5 {a b:Str} (h:gN a b=true) (h':gN b a=true):False:=by
 have:=Ck h h'
 rw[yF]at this;cases this
theorem vG:∀ {a b:aK},j7 a->j7 b->a.Perm b->a=b
 | [],b,_,_,p=>p.nil_eq
 | x::a,[],_,_,p=>absurd p.length_eq (by simp)
 | x::a,y::b,sa,sb,p=>by
  unfold j7 at sa sb
  rw[cD,List.pairwise_cons]at sa sb
  have hx:=p.mem_iff.mp (ba (a:=x) (l:=a))
  have hy:=p.mem_iff.mpr (ba (a:=y) (l:=b))
  have e:x=y:=by
   rcases bq.mp hx with z | z
   ·exact z
   ·rcases bq.mp hy with z' | z'
    ·exact z'.symm
    ·exact(V5 (sb.1 _ (bf.mpr ⟨x,z,rfl⟩)) (sa.1 _ (bf.mpr ⟨y,z',rfl⟩))).elim
  subst e
  rw[vG sa.2 sb.2 (List.Perm.cons_inv p)]
section
variable {P : Program} {w : World} {K : Frag} {mg : Str -> Option Value} {base : Heap} {f : Addr} {fd : FuncData}
@[irreducible] def mI:Sp:=fun vs H Q _=>∃ (d:Addr) (kvs:List (Key×V)) (ks:List Str) (L Ps:Str->List Str) (k:Str),vs = [.ref d,.str k]/\H d=some (.dK kvs)/\(∀x∈ks,eM H kvs Ps x)/\Fm ks L Ps/\ks.length<=8/\k∈ks /\
 ∀ (l:Addr) (F:List Str) (H':Hp),H l=none->ak H H'->H' l=some (.lst (F.map V.str))->(∀y,y∈F ↔ y∈L k)->F.length<=8->F.Nodup->Q (.ref l) H'
theorem MP {d:Addr}{kvs:List (Key×V)}{ks:List Str}{L Ps:Str->List Str}{k:Str}{H:Hp}{Q:VK}{E:XK} (hd:H d=some (.dK kvs)) (hl:∀x∈ks,eM H kvs Ps x) (fm:Fm ks L Ps) (h8:ks.length<=8) (hk:k∈ks)
  (q:∀ (l:Addr) (F:List Str) (H':Hp),H l=none->ak H H'->H' l=some (.lst (F.map V.str))->(∀y,y∈F ↔ y∈L k)->F.length<=8->F.Nodup->Q (.ref l) H'):mI [.ref d,.str k] H Q E:=by unfold mI;exact⟨d,kvs,ks,L,Ps,k,rfl,hd,hl,fm,h8,hk,q⟩
abbrev nFo:List Str:= ["_law_parents_here", "_law_kind", "_law_found", "_law_k", "_law_one"]
theorem wx:bZ nFo ["_law_parents_here", "_law_kind"] (ay sY):=⟨rfl,rfl,rfl,by decide +kernel,rfl,by decide +kernel,by decide +kernel⟩
theorem X2 (F:aZ K "_law_forebears" "_law_forebears" sY f fd) (B:eK mg):aG P w K mg base aL 1 f fd ["_law_parents_here", "_law_kind"] mI:=by
 refine F.ok wx (fun vs H Q E h=>?_) (fun cdv A outer s H vs Q E hr h=>?_)
 ·unfold mI at h;obtain⟨d,kvs,ks,L,Ps,k,rfl,_⟩:=h;rfl
 ·unfold mI at h
  obtain⟨d,kvs,ks,L,Ps,k,rfl,hd,hl,fm,h8,hk,q⟩:=h
  have hu:=hr.units
  have eu:=nP (nQ (show 1<=64 by decide) _) hu
  have lp:=fm.rz h8
  have up:=yG fm
  refine⟨_,aC (a9 (i:=2) wx.nd rfl (Or.inl rfl) (cQ (ae (pv 1) ai)))
   (aC (a9 (i:=3) wx.nd rfl (Or.inl rfl) aP)
   (aC (vh jM (cE Ni (pv 3) (bx iU rfl B.len hW (ae (pv 2) ai)) (cP _))
    (aC (jr jM rfl (gG (nZ eu (pv 0) (cz gH (pv 2) (pv 3) (fun _ _=>rfl)) (fun _ _=>rfl))) (a8 (i:=4) wx.nd rfl (Or.inl rfl))
     (aM (cN (cE u0 (pv 4) (pv 2) rfl) (aM (fc (jt lu pO pP kc (pv 2) (ae (pv 4) ai)))) cM)))
    (aM (a9 (i:=3) wx.nd rfl (Or.inl rfl) (cH p9 (pv 3) aP)))))
   (aM (bo (pv 2))))),?_⟩
  refine⟨_,rfl,by show 1<=sizeLine;rw[aI];decide,fun fa eZ=>?_⟩
  have Q8:∀b u,b≠fa->H b=some u->upd H fa (.lst [V.str k]) b=some u:=fun b u n e=>by rw[ah n];exact e
  have h0:upd H fa (.lst [V.str k]) fa=some (.lst ([k].map V.str)):=ag
  generalize upd H fa (.lst [V.str k])=H0 at Q8 h0 ⊢
  have ndf:d≠fa:=ao hd eZ
  have hkL:k∈L k:=(lp.mem _ (jk hk) k).mpr (.inl rfl)
  have Q9:(L k).length<=8:=lp.le8 _ (jk hk)
  refine⟨fun m σ H1=>∃ (i:Nat) (Fs:List Str) (v4:Option V),σ = [some (.ref d),some (.str k),some (.ref fa),some (.int i),v4]/\(∀b u,b≠fa->H b=some u->H1 b=some u)/\H1 fa=some (.lst (Fs.map V.str))/\Fs.Nodup/\(∀y∈Fs,y∈L k)/\k∈Fs/\i<=Fs.length/\(∀y∈Fs.take i,∀z∈Ps y,z∈Fs)/\m=8 - i,
   ⟨_,0,[k],none,rfl,Q8,h0,by simp,fun y hy=>by rw[show y=k by simpa using hy];exact hkL,ba,a4 _,fun y hy=>(by cases hy),rfl⟩,?_⟩
  rintro m σ H1 ⟨i,Fs,v4,rfl,kp,h1,nd,sub,Ra,hi,cl,rfl⟩
  have hF8:Fs.length<=8:=cK (len_sub nd sub) Q9
  refine⟨_,rfl,_,rfl,fa,_,rfl,.inl (aj.of h1),_,_,rfl,rfl,_,rfl,?_⟩
  rw[aE]
  refine eF (fun aS=>?_) (fun hge=>?_)
  ·have DE:i < Fs.length:=by have:=uZ aS;omega
   have Rb:=sub _ (iT DE)
   have HA:Fs[i]∈ks:=(fm.ld k hk).2 _ Rb
   obtain⟨pa,ep,gm⟩:=hl _ HA
   have rj:pa≠fa:=ao gm eZ
   obtain⟨j5,p4,abi⟩:=fm.ps _ HA
   have xM:=lp.trans up _ _ (jk hk) rfl _ Rb
   have hPs:∀z∈Ps Fs[i],z∈L k:=fun z hz=>xM z ((lp.mem _ (jk HA) z).mpr (.inr ⟨z,hz,(lp.mem _ (jk (abi z hz)) z).mpr (.inl rfl)⟩))
   refine⟨fun aH H'=>∃m',m' < 8 - i /\ ∃ (i:Nat) (Fs:List Str) (v4:Option V),aH = [some (.ref d),some (.str k),some (.ref fa),some (.int i),v4]/\(∀b u,b≠fa->H b=some u->H' b=some u)/\H' fa=some (.lst (Fs.map V.str))/\Fs.Nodup/\(∀y∈Fs,y∈L k)/\k∈Fs/\i<=Fs.length/\(∀y∈Fs.take i,∀z∈Ps y,z∈Fs)/\m'=8 - i,fun _ _ z=>z,?_⟩
   refine⟨_,rfl,_,rfl,_,rfl,fa,_,i,.str Fs[i],rfl,rfl,aj.of h1,eO (by rw[f6,br DE];rfl),d,.ref pa,rfl,.inl ⟨kvs,Sum.inr Fs[i],.inl (kp _ _ ndf hd),rfl,ep.symm⟩,?_⟩
   refine⟨pa,rfl,⟨_,aj.of (kp _ _ rj gm)⟩,yA (xs:=(Ps Fs[i]).map V.str) (fun j σ H2=>∃ (ext:List Str) (v4:Option V),σ = [some (.ref d),some (.str k),some (.ref fa),some (.int i),v4]/\(∀b u,b≠fa->H b=some u->H2 b=some u)/\H2 fa=some (.lst ((Fs++ext).map V.str))/\(Fs++ext).Nodup/\(∀y∈Fs++ext,y∈L k)/\(∀z∈(Ps Fs[i]).take j,z∈Fs++ext))
    ⟨[],v4,rfl,kp,by rw[eV];exact h1,by rw[eV];exact nd,by rw[eV];exact sub,fun z hz=>(by cases hz)⟩ (fun j σ H2 _ ⟨_,_,_,z,_⟩=>aj.of (z _ _ rj gm)) ?_ ?_⟩
   ·rintro j x σ H2 hx ⟨ext,v4,rfl,nH,h2,rg,wy,xN⟩
    have b6:j < ((Ps Fs[i]).map V.str).length:=(b9.mp hx).1
    have gn:j < (Ps Fs[i]).length:=by simpa using b6
    obtain rfl:V.str (Ps Fs[i])[j]=x:=by simpa [gn] using hx
    have tk:(Ps Fs[i]).take (j+1)=(Ps Fs[i]).take j ++ [(Ps Fs[i])[j]]:=by rw[dz,br gn];rfl
    have iO:(Fs++ext).length<=8:=cK (len_sub rg wy) Q9
    refine⟨_,rfl,_,rfl,fa,_,rfl,.inl (aj.of h2),rfl,jN _,_,rfl,?_⟩
    rw[ke]
    refine eF (fun bg=>?_) (fun bg=>?_)
    ·have lM:(Ps Fs[i])[j] ∉ Fs++ext:=by simpa using bg
     refine⟨_,rfl,.inl ⟨rfl,_,aj.of h2⟩,_,rfl,fa,_,_,rfl,rfl,h2,by rw[aE,aI];omega,?_⟩
     refine⟨ext ++ [(Ps Fs[i])[j]],_,rfl,fun b u n e=>by rw[ah n];exact nH b u n e,?_,?_,fun y hy=>?_,fun z hz=>?_⟩
     ·rw[<-uV,bV (l₁:=Fs++ext)];exact ag
     ·rw[<-uV,lr]
      exact⟨rg,by simp,fun a ha b hb e=>lM (by rw[<-eN.mp hb,<-e];exact ha)⟩
     ·rw[<-uV]at hy
      rcases dk.mp hy with z | z
      ·exact wy y z
      ·rw[eN.mp z];exact hPs _ (iT gn)
     ·rw[<-uV]
      rw[tk]at hz
      rcases dk.mp hz with z | z
      ·exact jf _ (xN _ z)
      ·rw[eN.mp z];exact eU _ ba
    ·have lM:(Ps Fs[i])[j]∈Fs++ext:=by
      have h3 : ¬(Ps Fs[i])[j]∈Fs->(Ps Fs[i])[j]∈ext:=by simpa using bg
      by_cases z:(Ps Fs[i])[j]∈Fs
      ·exact jf _ z
      ·exact eU _ (h3 z)
     refine⟨ext,_,rfl,nH,h2,rg,wy,fun z hz=>?_⟩
     rw[tk]at hz
     rcases dk.mp hz with z | z
     ·exact xN _ z
     ·rw[eN.mp z];exact lM
   ·rintro σ H2 ⟨ext,v4,rfl,nH,h2,rg,wy,xN⟩
    rw[aE,d5]at xN
    refine⟨_,rfl,_,1,rfl,rfl,8 - (i+1),by omega,i+1,Fs++ext,v4,rfl,nH,h2,rg,wy,jf _ Ra,by rw[c9];omega,fun y hy z hz=>?_,rfl⟩
    rw[alx (by omega),dz,br DE]at hy
    rcases dk.mp hy with w | w
    ·exact jf _ (cl y w z hz)
    ·have:y=Fs[i]:=by simpa using w
     rw[this]at hz
     exact xN z hz
  ·have alX:Fs.length<=i:=by
    by_cases z:i < Fs.length
    ·exact absurd (gO (by omega)) hge
    ·omega
   have ei:i=Fs.length:=by omega
   rw[ei,d5]at cl
   refine⟨_,rfl,q fa Fs H1 eZ (fun b u e=>kp b u (ao e eZ) e) h1 (fun y=>⟨sub y,fun hy=>?_⟩) hF8 nd⟩
   refine lp.closed (fun p hp hpF x hx=>?_) up _ _ (jk hk) rfl Ra y hy
   obtain⟨z,hz,rfl⟩:=bf.mp hp
   exact cl z hpF x hx
end
end aX
namespace aX
open PySem L2 PySem.W HT
section
variable {P : Program} {w : World} {K : Frag} {mg : Str -> Option Value} {base : Heap} {f : Addr} {fd : FuncData}
@[irreducible] def tT:Sp:=fun vs H Q _=>∃ (p l:Addr) (ys:List Str),vs = [.ref l,.ref p]/\d9 p H/\p≠l/\H l=some (.lst (ys.map V.str))/\ys.length<=20 /\
 ∀ (o:Addr) (own rest:List Str) (H':Hp),(own++rest).Perm ys->own.length<=4->d9 p H'->(∀b u,H b=some u->b≠p->b≠l->H' b=some u)->H' o=some (.lst (own.map V.str))->Q (.ref o) H'
theorem ZJ {p l:Addr}{ys:List Str}{H:Hp}{Q:VK}{E:XK} (hp:d9 p H) (rj:p≠l) (hn:H l=some (.lst (ys.map V.str))) (hl:ys.length<=20)
  (q:∀ (o:Addr) (own rest:List Str) (H':Hp),(own++rest).Perm ys->own.length<=4->d9 p H'->(∀b u,H b=some u->b≠p->b≠l->H' b=some u)->H' o=some (.lst (own.map V.str))->Q (.ref o) H'):tT [.ref l,.ref p] H Q E:=by
 unfold tT;exact⟨p,l,ys,rfl,hp,rj,hn,hl,q⟩
abbrev nSo:List Str:= ["_law_left", "_law_pot_here", "_law_own", "_law_turn"]
theorem DF:bZ nSo ["_law_left", "_law_pot_here"] (ay sC):=⟨rfl,rfl,rfl,by decide +kernel,rfl,by decide +kernel,by decide +kernel⟩
theorem ZK {fD:Addr}{dD:FuncData} (F:aZ K "_law_some_of" "_law_some_of" sC f fd) (B:eK mg) (GD:aG P w K mg base aL 1 fD dD ["_law_pot_here", "_law_many"] lA) (kD:keepIn K (.ref fD)=true) (bD:Binds K dD ["_law_pot_here", "_law_many"] []) (mD:mg "_law_digit" = some (.ref fD)) :
  aG P w K mg base aL 2 f fd ["_law_left", "_law_pot_here"] tT:=by
 refine F.ok DF (fun vs H Q E h=>?_) (fun cdv A outer s H vs Q E hr h=>?_)
 ·unfold tT at h;obtain⟨p,l,ys,rfl,_⟩:=h;rfl
 ·unfold tT at h
  obtain⟨p,l,ys,rfl,hp,cB,hn,hlen,q⟩:=h
  have cC:aT 1 _:=hr
  refine⟨_,aC (a9 (i:=2) DF.nd rfl (Or.inl rfl) (cQ ai))
   (aC (jr jM rfl (nT rfl B.range (ae (bx (Br rfl) rfl B.min boot_min (ae (bx iU rfl B.len hW (ae (pv 0) ai)) (ae (aR GD cC rfl mD kD bD .nil aV (ae (pv 1) (ae aP ai))) ai))) ai)) (a8 (i:=3) DF.nd rfl (Or.inl rfl))
    (aM (fc (jt lu pO pP kc (pv 2)
     (ae (jt lu alu alv LL (pv 0) (ae (aR GD cC rfl mD kD bD .nil aV (ae (pv 1) (ae (bx iU rfl B.len hW (ae (pv 0) ai)) ai))) ai)) ai)))))
   (aM (bo (pv 2)))),?_⟩
  refine⟨a4 _,fun fa eZ=>?_⟩
  have lY:p≠fa:=hp.ne eZ
  have rm:l≠fa:=ao hn eZ
  have P0:bX p H (upd H fa (.lst [])):=(bX.refl hp).new eZ
  have HB:upd H fa (.lst []) l=some (.lst (ys.map V.str)):=by rw[ah rm];exact hn
  have Rc:upd H fa (.lst []) fa=some (.lst []):=ag
  generalize upd H fa (.lst [])=H0 at P0 HB Rc ⊢
  refine⟨_,rfl,l,_,rfl,.inl (aj.of HB),?_⟩
  refine⟨_,rfl,kh (p:=p) (m:=5) P0.ok (by decide) (by decide) fun d H1 d0 d1 pz=>?_⟩
  have P1:=P0.trans pz
  have gC:=pz.kp _ _ HB (aO cB)
  have j3:=pz.kp _ _ Rc (aO lY)
  refine⟨_,d,rfl,?_⟩
  rw[aE]
  obtain⟨N,hN,hN4,hNl⟩:∃N:Nat,(if d < (ys.length:Int) then d else (ys.length:Int))=N/\N<=4/\N<=ys.length:=by
   split
   ·exact⟨d.toNat,by omega,by omega,by omega⟩
   ·exact⟨ys.length,rfl,by omega,aN _⟩
  rw[hN]
  refine⟨(N:Int),rfl,by omega,by omega,rV (fun i σ H1=>∃ (zs ls:List Str) (v3:Option V),σ = [some (.ref l),some (.ref p),some (.ref fa),v3]/\zs.length=i/\(zs++ls).Perm ys/\d9 p H1/\(∀b u,H b=some u->b≠p->b≠l->H1 b=some u)/\H1 l=some (.lst (ls.map V.str))/\H1 fa=some (.lst (zs.map V.str)))
   ⟨[],ys,none,rfl,rfl,uY _,P1.ok,fun b u e n _=>P1.kp b u e n,gC,j3⟩ ?_ ?_⟩
  ·rintro i σ H1 hi ⟨zs,ls,v3,rfl,hz,hP,HC,HE,gC,j3⟩
   have CO:=hP.length_eq
   rw[c9]at CO
   have qY:i < N:=by simpa using hi
   have Dn:0 < ls.length:=by omega
   refine⟨_,rfl,.inl ⟨rfl,_,aj.of j3⟩,_,rfl,.inl ⟨rfl,_,aj.of gC⟩,_,rfl,_,rfl,l,_,rfl,.inl (aj.of gC),?_⟩
   refine kh (p:=p) HC (by rw[aE];omega) (by rw[aE];omega) fun d H2 d0 d1 pb=>?_
   have iO:=pb.kp _ _ gC (aO cB)
   have lb:=pb.kp _ _ j3 (aO lY)
   rw[aE]at d1
   have hd:d.toNat < ls.length:=by omega
   refine⟨l,_,d,d.toNat,.str ls[d.toNat],rfl,rfl,iO,by omega,by omega,AF d0 (by rw[aE];exact d1),by rw[f6,br hd];rfl,?_⟩
   have eJ:(upd H2 l (.lst ((ls.map V.str).eraseIdx d.toNat))) fa=some (.lst (zs.map V.str)):=by rw[ah (aO rm)];exact lb
   refine⟨fa,_,_,rfl,rfl,eJ,by rw[aE,aI];omega,?_⟩
   refine⟨zs ++ [ls[d.toNat]],ls.eraseIdx d.toNat,_,rfl,by rw[c9];simp[hz],?_,?_,fun b u e n1 n2=>?_,?_,?_⟩
   ·refine List.Perm.trans ?_ hP
    rw[uV]
    exact alw zs (Bo ls _ hd)
   ·obtain⟨x,y,e,r⟩:=pb.ok
    exact⟨x,y,by rw[ah lY,ah cB];exact e,r⟩
   ·rw[ah (ao e eZ),ah n2];exact pb.kp _ _ (HE b u e n1 n2) n1
   ·rw[ah rm,ag,BE]
   ·rw[ag,bV];rfl
  ·rintro σ H1 ⟨zs,ls,v3,rfl,hz,hP,HC,HE,gC,j3⟩
   have xr:zs.length=N:=by simpa using hz
   exact⟨_,rfl,q fa zs ls H1 hP (by omega) HC HE j3⟩
end
end aX
namespace aX
open PySem L2 PySem.W HT
def cV:Expr->Option V
 | .Constant .none _ _=>some .aD
 | .Constant (.bool b) _ _=>some (.bl b)
 | .Constant (.int i) _ _=>some (.int i)
 | .Constant (.str x) _ _=>some (.str x)
 | .UnaryOp .USub (.Constant (.int i) _ _) _=>some (.int (-i))
 | _=>none
section
variable {X : Cx}
theorem ZL {e:Expr}{v:V} (h:cV e=some v):PE X e (tC v):=by
 unfold cV at h
 split at h
 ·cases h;exact iE
 ·cases h;exact km
 ·cases h;exact aP
 ·cases h;exact jq
 ·cases h;exact fun pins s σ H Q I q=>Cy Ci aP pins s σ H Q I ⟨_,rfl,q⟩
 ·cases h
theorem W4 {e:Expr}{v:V}{es:List Expr} (h:cV e=some v):starEach (e::es) X.env=(false,eval e X.env)::starEach es X.env:=by
 unfold cV at h
 split at h <;> first | rfl | cases h
theorem LH {rest:List Expr}{t:TA} (hr:PA X rest t):∀ {es:List Expr}{vs:List V},es.map cV=vs.map some->PA X (es++rest) (fun σ H Q=>t σ H fun xs H2=>Q (vs++xs) H2)
 | [],[],_=>hr
 | [],v::vs,h=>by cases h
 | e::es,[],h=>by cases h
 | e::es,v::vs,h=>by
  rw[cD,cD,List.cons.injEq]at h
  exact ae (ZL h.1) (LH hr h.2) (W4 h.1)
end
def dU:List (Nat×Str):= [(0, "NoName"),(1, "NoKind"),(2, "NoParents"),(3, "Taken"),(4, "InUse"),(5, "NoEntry"),(6, "NoThing"),(7, "NoNumber"),(8, "NotAbove"),(9, "Shut"),(10, "NoText"),(11, "NoRow"),(12, "Ring"),(13, "Round"),(14, "Missing"),(15, "Endless")]
structure wz (K:Frag) (mg:Str->Option Value) (c:Nat->Addr):Prop where
 n:∀p∈dU,mg p.2=some (.ref (c p.1))
 ve:mg "ValueError" = none
 k:∀i j,i=4\/i=12->j < 16->kitOne K (.ref (c i)) (.ref (c j))=some (decide (i=j))
 v:∀i,i=4\/i=12->kitOne K (.ref (c i)) (.type "ValueError")=some true
def iF:List Str:= ["name", "kind", "parents", "taken", "use", "entry", "thing", "number", "above", "shut", "text", "row", "ring", "round", "missing", "endless", "other"]
def vH (i:Nat):List Bool:=(List.range 16).map (fun j=>decide (i=j)) ++ [false]
theorem X3:bootBuiltins "ValueError" = some (.type "ValueError"):=by decide +kernel
section
variable {P : Program} {w : World} {K : Frag} {mg : Str -> Option Value} {base : Heap} {f : Addr} {fd : FuncData}
structure l0 (K:Frag) (c:Nat->Addr) (H:Hp) (x:Option Value) (a:Addr) (i:Nat):Prop where
 ob:∃n dx,H a=some (dJ n (c i) dx a) /\ ∀d,dx=some d -> ∃fs,H d=some (dv d fs)
 cl:dh K (c i)
 it:i=4\/i=12
 hx:x=some (.ref a)
 tl:mV H x
theorem l0.same {c:Nat->Addr}{H H':Hp}{x:Option Value}{a:Addr}{i:Nat} (h:l0 K c H x a i) (s:ak H H'):l0 K c H' x a i:=
 ⟨let ⟨n,dx,e,r⟩:=h.ob;⟨n,dx,s _ _ e,fun d ed=>let ⟨fs,z⟩:=r d ed;⟨fs,s _ _ z⟩⟩,h.cl,h.it,h.hx,h.tl.same s⟩
theorem abj {c:Nat->Addr}{H:Hp}{x:Option Value}{a:Addr}{i j:Nat}{Q:VK} (T:wz K mg c) (h:l0 K c H x a i) (hj:j < 16) (q:Q (.bl (decide (i=j))) H):Nw K [.ref a,.ref (c j)] H Q:=by
 obtain⟨n,dx,e,r⟩:=h.ob
 exact⟨a,n,c i,dx,.ref (c j),.ref (c j),_,rfl,.inl ⟨_,rfl,rfl⟩,e,h.cl,r,T.k i j h.it hj,q⟩
@[irreducible] def qC (K:Frag) (c:Nat->Addr):Option Value->Sp:=fun x vs H Q _=>∃ (a:Addr) (i:Nat),vs = [.ref a]/\l0 K c H x a i /\ ∀l H',ak H H'->H' l=some (.lst [.str (iF.getD i "")])->Q (.ref l) H'
theorem NL {c:Nat->Addr}{x:Option Value}{a:Addr}{i:Nat}{H:Hp}{Q:VK}{E:XK} (h:l0 K c H x a i) (q:∀l H',ak H H'->H' l=some (.lst [.str (iF.getD i "")])->Q (.ref l) H'):qC K c x [.ref a] H Q E:=by unfold qC;exact⟨a,i,rfl,h,q⟩
abbrev HF:List Str:= ["_law_e", "_law_some", "_law_words"]
theorem qD:bZ HF ["_law_e"] (ay jQ):=⟨rfl,rfl,rfl,by decide +kernel,rfl,by decide +kernel,by decide +kernel⟩
abbrev eCl:Expr:=wo (cw (aQ jQ) 7)
theorem DG:cf HF (ay jQ) ["_law_word", "_law_truth"] [none,none] (cR eCl):=⟨rfl,by decide +kernel,by decide +kernel,rfl,d7 (by decide +kernel),by decide +kernel⟩
def picked (i n:Nat):List Str:=((iF.zip (vH i)).take n).filterMap fun p=>if p.2=true then some p.1 else none
theorem Vm:∀i,i < 16->picked i 17 = [iF.getD i ""]:=by decide +kernel
def Cs (e:Expr):List Expr:=match e with | .List es _=>es | _=>[]
def lstP (e:Expr):Pos:=match e with | .List _ p=>p | _=>⟨0,0,0,0⟩
def OO (s:Stmt):Pos:=match s with | .Assign _ _ p=>p | _=>⟨0,0,0,0⟩
def OP (s:Stmt):List Expr:=match s with | .Assign t _ _=>t | _=>[]
def OQ (e:Expr):Expr:=match e with | .BinOp _ _ b _=>b | _=>.Constant .none 0 ⟨0,0,0,0⟩
def ZM (e:Expr):Expr:=match e with | .BinOp a _ _ _=>a | _=>.Constant .none 0 ⟨0,0,0,0⟩
def abk (e:Expr):Pos:=match e with | .BinOp _ _ _ p=>p | _=>⟨0,0,0,0⟩
abbrev SC (k:Nat):Stmt:=cw (aQ jQ) k
@[irreducible] def iQ (k:Nat):List Expr:=match k with | 0=>Cs (eW (SC 0))|5=>Cs (eW (SC 5))|k=>Cs (OQ (eW (SC k)))
abbrev sA (k:Nat):Stmt:= .Assign (OP (SC k)) (.List (iQ k) (lstP (eW (SC k)))) (OO (SC k))
abbrev sB (k:Nat):Stmt:= .Assign (OP (SC k)) (.BinOp (ZM (eW (SC k))) .Add (.List (iQ k) (lstP (OQ (eW (SC k))))) (abk (eW (SC k)))) (OO (SC k))
theorem bdC:aQ jQ = [sA 0,sB 1,sB 2,sB 3,SC 4,sA 5,sB 6,SC 7]:=by unfold sA sB iQ;rfl
def DH (x:Str) (e:Expr):Bool:=match e with | .Call (.Name g _) [.Name y _,.Name z _] [] _=>g == "isinstance" && y == "_law_e" && z==x | _=>false
def tU:List (Nat×Str)->List Expr->Bool
 | [],[]=>true
 | p::js,e::es=>DH p.2 e && tU js es
 | _,_=>false
theorem ch0:tU (dU.take 4) (iQ 0)=true:=by unfold iQ;decide +kernel
theorem ch1:tU ((dU.drop 4).take 4) (iQ 1)=true:=by unfold iQ;decide +kernel
theorem ch2:tU ((dU.drop 8).take 4) (iQ 2)=true:=by unfold iQ;decide +kernel
theorem ch3:tU ((dU.drop 12).take 4) (iQ 3)=true:=by unfold iQ;decide +kernel
theorem chA:(iQ 5).map cV=((iF.take 12).map V.str).map some:=by unfold iQ;decide +kernel
theorem chB:(iQ 6).map cV=((iF.drop 12).map V.str).map some:=by unfold iQ;decide +kernel
theorem Md {X:Cx}{es:List Expr}{vs:List V} (h:es.map cV=vs.map some):PA X es (fun _ H Q=>Q vs H):=by
 have:=LH (X:=X) ai h
 rw[eV]at this
 exact fun pos pins s σ H Q I q=>this pos pins s σ H Q I (by show Q (vs ++ []) H;rw[eV];exact q)
end
end aX
namespace aX
open PySem L2 PySem.W HT
section
variable {P : Program} {w : World} {K : Frag} {mg : Str -> Option Value} {base : Heap} {f : Addr} {fd : FuncData}
abbrev uH (P:Program) (w:World) (K:Frag) (mg:Str->Option Value) (base:Heap) (f:Addr) (cdv:Value) (A:Around) (outer:List Env) (s:Shared) (H:Hp) (E:XK):Cx:=sT P w K mg base HF "_law_classes" (ay jQ) f cdv A outer s H E
section
variable {cdv : Value} {A : Around} {outer : List Env} {s0 : Shared} {H0 : Hp} {E0 : XK} {c : Nat -> Addr}
def tI (K:Frag) (c:Nat->Addr) (x:Option Value) (js:List (Nat×Str)):TA:=fun σ H Q=>∃a i,σ[0]? = some (some (.ref a))/\l0 K c H x a i/\Q (js.map fun p=>.bl (decide (i=p.1))) H
theorem glC:∀p∈dU,(ay jQ).names.lookup p.2=some .globalImplicit/\(p.2==("__debug__" : Str))=false/\p.1 < 16:=by decide +kernel
theorem YR (B2:jz mg) (T:wz K mg c) {p:Nat×Str}{e:Expr} (hp:p∈dU) (h:DH p.2 e=true) :
  PE (uH P w K mg base f cdv A outer s0 H0 E0) e (fun σ H Q=>∃a i,σ[0]? = some (some (.ref a))/\l0 K c H A.handled a i/\Q (.bl (decide (i=p.1))) H) /\ ∀es,starEach (e::es) (uH P w K mg base f cdv A outer s0 H0 E0).env=(false,eval e (uH P w K mg base f cdv A outer s0 H0 E0).env)::starEach es (uH P w K mg base f cdv A outer s0 H0 E0).env:=by
 unfold DH at h
 split at h
 ·rename_i g p0 y p1 z p2 p3
  simp only[x5,cS]at h
  obtain⟨⟨rfl,rfl⟩,rfl⟩:=h
  obtain⟨hg,hd,lt⟩:=glC p hp
  have h0:PE (uH P w K mg base f cdv A outer s0 H0 E0) (.Call (.Name "isinstance" p0) [.Name "_law_e" p1,.Name p.2 p2] [] p3) _:=bx Lu rfl B2.xG vn (ae (pv 0) (ae (Mh (v:= .ref (c p.1)) hg (T.n p hp) rfl hd) ai))
  exact⟨fun pins s σ H Q I ⟨a,i,e,ct,q⟩=>h0 pins s σ H Q I ⟨_,e,abj T ct lt q⟩,fun es=>rfl⟩
 ·cases h
theorem vI (B2:jz mg) (T:wz K mg c):∀ {js:List (Nat×Str)}{es:List Expr},tU js es=true->(∀p∈js,p∈dU)->PA (uH P w K mg base f cdv A outer s0 H0 E0) es (tI K c A.handled js)
 | [],[],_,_=>fun pos pins s σ H Q I ⟨a,i,e,ct,q⟩=>ai pos pins s σ H Q I q
 | [],_::_,h,_=>by cases h
 | _::_,[],h,_=>by cases h
 | p::js,e::es,h,hj=>by
  obtain⟨h1,h2⟩:=iz.mp h
  obtain⟨he,hs⟩:=YR (P:=P) (w:=w) (base:=base) (f:=f) (cdv:=cdv) (A:=A) (outer:=outer) (s0:=s0) (H0:=H0) (E0:=E0) B2 T (hj p ba) h1
  have hr:=vI B2 T h2 fun q hq=>hj q (bU _ hq)
  refine fun pos pins s σ H Q I ⟨a,i,e,ct,q⟩=>ae he hr (hs es) pos pins s σ H Q I ⟨a,i,e,ct,?_⟩
  exact⟨a,i,e,ct,q⟩
abbrev iR (i:Nat) (js:List (Nat×Str)):List V:=js.map fun p=>.bl (decide (i=p.1))
theorem yT {H H1:Hp}{l l2:Addr}{xs ys:List V}{Q:VK} (hl:H1 l=some (.lst xs)) (z:xs.length+ys.length<=40) (S:ak H H1) (h2:H1 l2=none) (k:∀l3 H3,ak H H3->H3 l3=some (.lst (xs++ys))->H l3=none->Q (.ref l3) H3):N0 (.ref l) (.ref l2) (upd H1 l2 (.lst ys)) Q:=
 ⟨l,l2,xs,ys,rfl,rfl,by rw[ah (ao hl h2)];exact hl,ag,by rw[aI];omega,fun p hp=>k p _ (S.trans ((aF h2).trans (aF hp))) ag (S.free ((aF h2).free hp))⟩
theorem ZN (F:aZ K "_law_classes" "_law_classes" jQ f fd) (B2:jz mg) (bz:mg "zip" = none) (T:wz K mg c):sU P w K mg base 1 f fd ["_law_e"] (qC K c):=by
 refine F.Qf qD (fun x vs H Q E h=>?_) (fun cdv A outer s H vs Q E hr h=>?_)
 ·unfold qC at h;obtain⟨a,i,rfl,_⟩:=h;rfl
 ·unfold qC at h
  obtain⟨a,i,rfl,ct,q⟩:=h
  have in4:∀k,∀p∈(dU.drop k).take 4,p∈dU:=fun k p hp=>Kd (Ud hp)
  rw[bdC]
  refine⟨_,aC (a9 (i:=1) qD.nd rfl (Or.inl rfl) (cQ (vI B2 T ch0 (in4 0))))
   (aC (a9 (i:=1) qD.nd rfl (Or.inl rfl) (cH qd (pv 1) (cQ (vI B2 T ch1 (in4 4)))))
   (aC (a9 (i:=1) qD.nd rfl (Or.inl rfl) (cH qd (pv 1) (cQ (vI B2 T ch2 (in4 8)))))
   (aC (a9 (i:=1) qD.nd rfl (Or.inl rfl) (cH qd (pv 1) (cQ (vI B2 T ch3 (in4 12)))))
   (aC (fc (jt lu pO pP kc (pv 1) (ae (Yc (bx Lu rfl B2.xG vn (ae (pv 0) (ae (yI (v:= .ty "ValueError") rfl T.ve X3 rfl) ai)))) ai)))
   (aC (a9 (i:=2) qD.nd rfl (Or.inl rfl) (cQ (Md chA)))
   (aC (a9 (i:=2) qD.nd rfl (Or.inl rfl) (cH qd (pv 2) (cQ (Md chB))))
   (aM (bo (WH DG (XG rfl bz (ae (pv 2) (ae (pv 1) ai))) (fun s H fp=>⟨XF (n:=2) (K:=K) (hv:=A.handled) rfl rfl (gQ (a8 (i:=0) DG.nd rfl (Or.inl rfl)) (gQ (a8 (i:=1) DG.nd rfl (Or.inl rfl)) nY)),jl (ib (pv 1)),pv 0⟩)))))))))),?_⟩
  have sz:∀n:Nat,n<=100->n<=sizeLine:=fun n h=>by rw[aI];omega
  refine⟨a,i,rfl,ct,sz 4 (by decide),fun l1 h1=>?_⟩
  have S1:=aF (o:= .lst (iR i (dU.take 4))) h1
  have e1:upd H l1 (.lst (iR i (dU.take 4))) l1=_:=ag
  generalize upd H l1 (.lst (iR i (dU.take 4)))=H1 at S1 e1 ⊢
  refine⟨_,rfl,a,i,rfl,ct.same S1,sz 4 (by decide),fun l2 h2=>yT e1 (by show 8<=40;decide) S1 h2 fun l3 H3 S3 e3 _=>?_⟩
  refine⟨_,rfl,a,i,rfl,ct.same S3,sz 4 (by decide),fun l4 h4=>yT e3 (by show 12<=40;decide) S3 h4 fun l5 H5 S5 e5 _=>?_⟩
  refine⟨_,rfl,a,i,rfl,ct.same S5,sz 4 (by decide),fun l6 h6=>yT e5 (by show 16<=40;decide) S5 h6 fun l7 H7 S7 e7 hn7=>?_⟩
  refine⟨_,rfl,.inl ⟨rfl,_,aj.of e7⟩,_,rfl,?_⟩
  obtain⟨nn,dx,eo,rr⟩:=(ct.same S7).ob
  refine⟨a,nn,c i,dx,.ty "ValueError", .type "ValueError", true,rfl,.inr ⟨_,rfl,rfl⟩,eo,ct.cl,rr,T.v i ct.it,true,rfl,l7,_,_,rfl,rfl,e7,sz 17 (by decide),?_⟩
  have e8:upd H7 l7 (.lst (iR i (dU.take 4)++iR i ((dU.drop 4).take 4)++iR i ((dU.drop 8).take 4)++iR i ((dU.drop 12).take 4) ++ [.bl (!true)])) l7=some (.lst ((vH i).map V.bl)):=ag
  have S8:ak H (upd H7 l7 (.lst (iR i (dU.take 4)++iR i ((dU.drop 4).take 4)++iR i ((dU.drop 8).take 4)++iR i ((dU.drop 12).take 4) ++ [.bl (!true)]))):=fun b o hb=>by rw[ah (ao hb hn7)];exact S7 _ _ hb
  generalize upd H7 l7 (.lst (iR i (dU.take 4)++iR i ((dU.drop 4).take 4)++iR i ((dU.drop 8).take 4)++iR i ((dU.drop 12).take 4) ++ [.bl (!true)]))=H8 at e8 S8 ⊢
  refine⟨sz 12 (by decide),fun l9 h9=>?_⟩
  have S9:=aF (o:= .lst ((iF.take 12).map V.str)) h9
  have e9:upd H8 l9 (.lst ((iF.take 12).map V.str)) l9=_:=ag
  generalize upd H8 l9 (.lst ((iF.take 12).map V.str))=H9 at S9 e9 ⊢
  refine⟨_,rfl,sz 5 (by decide),fun l10 zV=>yT e9 (by show 17<=40;decide) S9 zV fun l11 Ga Rf qQ _=>?_⟩
  have ew:(iF.take 12).map V.str++(iF.drop 12).map V.str=iF.map V.str:=by rw[<-bV,ak5]
  rw[ew]at qQ
  have zX:=Rf _ _ e8
  have HG:=S8.trans Rf
  refine⟨_,rfl,_,rfl,l11,l7,rfl,⟨_,aj.of qQ⟩,⟨_,aj.of zX⟩,fun p hp=>?_⟩
  refine VT (xs:=iF.map V.str) (ys:=(vH i).map V.bl) 17 rfl (aN 17) (fun n zs τ H1=>∃t0 t1:Option V,τ = [t0,t1]/\zs=(picked i n).map V.str/\ak Ga H1/\H1 p=some (.lst zs)) ⟨none,none,rfl,rfl,aF hp,ag⟩ (fun n zs τ H1 ⟨_,_,_,_,z1,z2⟩=>⟨z2,aj.of (z1 _ _ qQ),aj.of (z1 _ _ zX),(ct.tl.same HG).same z1⟩) ?_ ?_
  ·rintro n x y zs τ H1 t hx hy ⟨t0,t1,rfl,rfl,HH,xO⟩ ht
   have hl:n < 17:=(b9.mp hx).1
   have hw:∃wd,iF[n]? = some wd/\x = .str wd:=by
    rw[f6]at hx
    obtain⟨wd,h1,h2⟩:=iS.mp hx
    exact⟨wd,h1,h2.symm⟩
   have hb:∃b,(vH i)[n]? = some b/\y = .bl b:=by
    rw[f6]at hy
    obtain⟨b,h1,h2⟩:=iS.mp hy
    exact⟨b,h1,h2.symm⟩
   obtain⟨wd,hw,rfl⟩:=hw
   obtain⟨b,hb,rfl⟩:=hb
   have ep:picked i (n+1)=picked i n++if b=true then [wd] else []:=by
    unfold picked
    rw[dz,alk (z:=(wd,b)) |>.mpr ⟨hw,hb⟩,List.filterMap_append]
    cases b <;> rfl
   have lp:(picked i n).length<=17:=by
    have h1:(picked i n).length<=((iF.zip (vH i)).take n).length:=TF _ _
    rw[dq]at h1
    omega
   have St:=HH.trans (aF (o:= .tup [V.str wd,.bl b]) ht)
   refine⟨t,_,rfl,aJ.of ag,rfl,(ct.tl.same HG).same St,_,_,rfl,_,_,rfl,rfl,?_⟩
   refine⟨_,rfl,b,rfl,?_⟩
   have Rg:upd H1 t (.tup [V.str wd,.bl b]) p=some (.lst ((picked i n).map V.str)):=by rw[ah (ao xO ht)];exact xO
   cases b with
   | true =>
    refine⟨_,rfl,Rg,by rw[aE,aI];omega,cw_next hl ⟨_,_,rfl,?_,fun b o hb=>?_,ag⟩⟩
    ·rw[ep,bV];rfl
    ·rw[ah (ao hb hp)];exact St _ _ hb
   | false=>exact cw_next hl ⟨_,_,rfl,by rw[ep];simp,St,Rg⟩
  ·rintro zs τ H1 ⟨t0,t1,rfl,rfl,HH,xO⟩
   rw[Vm i (by rcases ct.it with rfl | rfl <;> decide)]at xO
   exact q p H1 (HG.trans HH) xO
end
end
end aX
namespace aX
open PySem L2 PySem.W HT
theorem iB {aa:aK}{k:Str}{ps:List Str}{p:Str×List Str}:p∈b8 aa k ps ↔ (p∈aa/\p.1≠k)\/p=(k,ps):=by
 unfold b8 cg
 rw[dk,hV,eN]
 simp
theorem B1 {aa:aK} (st:bp aa) (hl:aa.length<=14) {k:Str}{ps:List Str} (nm:Nm k) (nd:ps.Nodup) (h4:ps.length<=4) (bg:∀x∈ps,x∈keysOf aa):bp (b8 aa k ps):=by
 have sub:∀p∈cg aa k,p∈aa/\p.1≠k:=fun p hp=>by
  obtain⟨h1,h2⟩:=hV.mp hp
  exact⟨h1,by simpa using h2⟩
 refine⟨?_,?_,fun p hp=>?_,fun p hp x hx=>?_,fun p hp=>?_,fun p hp=>?_⟩
 ·unfold b8
  rw[bV,lr]
  refine⟨Uh (Ui.map _) st.nd,by simp,fun a ha b hb e=>?_⟩
  obtain⟨p,hp,rfl⟩:=bf.mp ha
  have:b=k:=by simpa using hb
  exact(sub p hp).2 (e.trans this)
 ·unfold b8
  have:(cg aa k).length<=aa.length:=gP _ _
  rw[c9,j9];omega
 ·rcases iB.mp hp with⟨h,_⟩|rfl
  ·exact st.nm p h
  ·exact nm
 ·have key:x∈keysOf aa:=by
   rcases iB.mp hp with⟨h,_⟩|rfl
   ·obtain⟨q,hq,rfl⟩:=st.up p h x hx
    exact bf.mpr ⟨q,hq,rfl⟩
   ·exact bg x hx
  by_cases e:x=k
  ·exact⟨(k,ps),iB.mpr (.inr rfl),e.symm⟩
  ·obtain⟨q,hq,rfl⟩:=bf.mp key
   exact⟨q,iB.mpr (.inl ⟨hq,e⟩),rfl⟩
 ·rcases iB.mp hp with⟨h,_⟩|rfl
  ·exact st.four p h
  ·exact h4
 ·rcases iB.mp hp with⟨h,_⟩|rfl
  ·exact st.j5 p h
  ·exact nd
theorem bp.lZ {aa:aK} (st:bp aa):aa.Nodup:=List.Pairwise.of_map _ (fun a b h e=>h (by rw[e])) st.nd
theorem Me {a b:aK} (sa:bp a) (sb:bp b) (h:∀p,p∈a ↔ p∈b):a.Perm b:=(alz sa.lZ sb.lZ).mpr h
structure aW (H:Hp) (ks:List Str) (t d:Addr) (kvs:List (Key×V)) (L Ps:Str->List Str) (aa:aK):Prop where
 fv:∃ws,H t=some (.tup ws)/\bu H ws aa
 pm:aa.Perm (f9 Ps ks)
 fm:Fm ks L Ps
 nd:ks.Nodup
 nm:∀x∈ks,Nm x
 k8:ks.length<=8
 hd:H d=some (.dK kvs)
 hk:kvs.map (·.1)=ks.map Sum.inr
 pl:∀x∈ks,eM H kvs Ps x
 so:j7 aa
section
variable {H H' : Hp} {ks : List Str} {t d : Addr} {kvs : List (Key × V)} {L Ps : Str -> List Str} {aa : aK}
theorem aW.same (R:aW H ks t d kvs L Ps aa) (S:ak H H'):aW H' ks t d kvs L Ps aa:=
 ⟨let ⟨ws,a,b⟩:=R.fv;⟨ws,S _ _ a,b.same S⟩,R.pm,R.fm,R.nd,R.nm,R.k8,S _ _ R.hd,R.hk,fun x hx=>let ⟨a,e,q⟩:=R.pl x hx;⟨a,e,S _ _ q⟩,R.so⟩
theorem aW.st (R:aW H ks t d kvs L Ps aa):bp aa:=R.fm.famSt R.nd R.nm R.k8 R.pm
theorem aW.fa (R:aW H ks t d kvs L Ps aa):FA H t aa:=⟨R.st,R.fv⟩
theorem aW.mem (R:aW H ks t d kvs L Ps aa) {p:Str×List Str}:p∈aa ↔ p.1∈ks/\p.2=Ps p.1:=by
 rw[R.pm.mem_iff]
 constructor
 ·intro h
  obtain⟨x,hx,rfl⟩:=bf.mp h
  exact⟨hx,rfl⟩
 ·rintro⟨h1,h2⟩
  exact bf.mpr ⟨p.1,h1,by rw[<-h2]⟩
theorem aW.key (R:aW H ks t d kvs L Ps aa) {x:Str}:x∈keysOf aa ↔ x∈ks:=
 ⟨fun h=>by obtain⟨p,hp,rfl⟩:=bf.mp h;exact(R.mem.mp hp).1,fun h=>bf.mpr ⟨(x,Ps x),R.mem.mpr ⟨h,rfl⟩,rfl⟩⟩
theorem aW.len (R:aW H ks t d kvs L Ps aa):aa.length=ks.length:=by rw[R.pm.length_eq];unfold f9;rw[aE]
theorem aW.has (R:aW H ks t d kvs L Ps aa) {x:Str} (hx:x∈ks):cJ aa x (L x):=R.fm.abh R.k8 R.pm x hx
theorem aW.all (R:aW H ks t d kvs L Ps aa):eG aa:=fun p hp=>(R.has (R.mem.mp hp).1).ln R.st
theorem aW.line (R:aW H ks t d kvs L Ps aa) {x:Str} (hx:x∈ks):de aa x=L x:=(R.has hx).line R.st
theorem aW.ln8 (R:aW H ks t d kvs L Ps aa) {x:Str} (hx:x∈ks):(L x).length<=8:=cK (len_sub (R.fm.ld x hx).1 (R.fm.ld x hx).2) R.k8
theorem aW.HI (R:aW H ks t d kvs L Ps aa) {x:Str} (hx:x∈ks):∀y∈L x,Nm y:=fun y hy=>R.nm y ((R.fm.ld x hx).2 y hy)
theorem aW.self (R:aW H ks t d kvs L Ps aa) {x:Str} (hx:x∈ks):x∈L x:=((R.fm.rz R.k8).mem _ (jk hx) x).mpr (.inl rfl)
theorem aW.HJ (R:aW H ks t d kvs L Ps aa) {x y z:Str} (hx:x∈ks) (hy:y∈Ps x) (hz:z∈L y):z∈L x:=((R.fm.rz R.k8).mem _ (jk hx) z).mpr (.inr ⟨y,hy,hz⟩)
theorem aW.lt (R:aW H ks t d kvs L Ps aa) {x y:Str} (hx:x∈ks) (hy:y∈Ps x):(L y).length < (L x).length:=(R.fm.rz R.k8).len _ (jk hx) y hy
theorem aW.pin (R:aW H ks t d kvs L Ps aa) {x y:Str} (hx:x∈ks) (hy:y∈Ps x):y∈ks:=(R.fm.ps x hx).2.2 y hy
theorem aW.wA (R:aW H ks t d kvs L Ps aa) {k y:Str} (hk:k∈ks) (hy:y∈Ps k):k ∉ L y:=fun h=>by
 have hyk:=R.pin hk hy
 have sub:=(R.fm.rz R.k8).trans (yG R.fm) _ _ (jk hyk) rfl k h
 have h1:(L k).length<=(L y).length:=len_sub (R.fm.ld k hk).1 sub
 have:=R.lt hk hy
 omega
theorem aW.get (R:aW H ks t d kvs L Ps aa) {x:Str} (hx:x∈ks):∃a,gJ H d (.str x) (some (.ref a))/\H a=some (.lst ((Ps x).map V.str)):=by
 obtain⟨a,e,h⟩:=R.pl x hx
 exact⟨a,.inl ⟨kvs,Sum.inr x,.inl R.hd,rfl,e.symm⟩,h⟩
theorem aW.stC (R:aW H ks t d kvs L Ps aa) {k:Str}{own:List Str} (hk:k∈ks) (nd:own.Nodup) (h4:own.length<=4) (bg:∀x∈own,x∈ks):bp (b8 aa k own):=
 B1 R.st (by rw[R.len];have:=R.k8;omega) (R.nm k hk) nd h4 fun x hx=>R.key.mpr (bg x hx)
theorem aW.abl (R:aW H ks t d kvs L Ps aa) {k:Str}{own:List Str} (hk:k∈ks) (bg:∀x∈own,x∈ks) (eP:∀x∈own,k ∉ L x) (st:bp (b8 aa k own)) (fr:lN (b8 aa k own)):eG (b8 aa k own):=by
 refine W3 fr (fun x=>if k∈L x then 100+(L x).length else (L x).length) fun p hp x hx=>⟨?_,st.up p hp x hx⟩
 rcases iB.mp hp with⟨h,ne⟩|rfl
 ·obtain⟨h1,h2⟩:=R.mem.mp h
  rw[h2]at hx
  have lt:=R.lt h1 hx
  by_cases e:k∈L x
  ·rw[aA e,aA (R.HJ h1 hx e)];omega
  ·rw[aq e];split <;> omega
 ·rw[aq (eP x hx),aA (R.self hk)]
  have:=R.ln8 (bg x hx)
  omega
theorem aW.ZO (R:aW H ks t d kvs L Ps aa) {k:Str}{own:List Str} (st:bp (b8 aa k own)) (hk:k∈ks) {x:Str} (hx:x∈ks) (hn:k ∉ L x):de (b8 aa k own) x=L x:=by
 refine(R.fm.has R.k8 (S:=fun y=>k ∉ L y) (fun y hy sy=>⟨iB.mpr (.inl ⟨R.mem.mpr ⟨hy,rfl⟩,fun e=>sy (by rw[show k=y from e.symm];exact R.self hy)⟩),fun z hz hkz=>sy (R.HJ hy hz hkz)⟩) x hx hn).line st
theorem V6 {a b:aK} (sb:bp b) (p:a.Perm b) {x:Str} (h:Ln b x):de a x=de b x:=((BZ p).mpr h).line (sb.perm p)
end
theorem MQ {n m:Int} (hm:0 < m):∃k:Nat,n % m=(k:Int)/\(k:Int) < m:=by
 obtain⟨k,ek⟩:=A0 (AY n (by omega:m≠0))
 exact⟨k,ek,by rw[<-ek];exact AZ _ hm⟩
def pairD (p:Str×List Str):PyData:= .tuple [.str p.1,.tuple (p.2.map PyData.str)]
theorem sH {H:Hp}:∀ {ws:List V}{aa:aK},bu H ws aa->gq H ws (aa.map pairD)
 | _,_,.nil=>.nil
 | _,_,.cons ⟨a,b,e,q,r⟩ t=>by
  subst e
  exact .cons (.tup q (.cons (.str _) (.cons (.tup r (lx H _)) .nil))) (sH t)
theorem pY {aa:aK} (st:bp aa):(PyData.tuple (aa.map pairD)).canLay0=true:=by
 have key:∀l:aK,(∀p∈l,p∈aa)->PyData.canLayAll0 (l.map pairD)=true:=by
  intro l
  induction l with
  | nil=>intro _;rfl
  | cons p l ih =>
   intro h
   have hp:=h p ba
   have h1:(PyData.tuple ([p.1].map PyData.str)).canLay0=true:=iW (xs:= [p.1]) fun x hx=>by rw[eN.mp hx];exact st.nm p hp
   have h2:(PyData.tuple (p.2.map PyData.str)).canLay0=true:=iW fun x hx=>by
    obtain⟨q,hq,rfl⟩:=st.up p hp x hx
    exact st.nm q hq
   have h3:=ih fun q hq=>h q (bU _ hq)
   simp only[PyData.canLay0,PyData.canLayAll0,cD,Tu,T8,pairD]at h1 h2 h3 ⊢
   rw[h1,h2];simpa using h3
 exact key aa fun _ h=>h
theorem BF (aa:aK):(PyData.tuple (aa.map pairD)).depth<=60:=by
 have key:∀l:aK,PyData.depthAll (l.map pairD)<=3:=by
  intro l
  induction l with
  | nil=>exact a4 _
  | cons p l ih =>
   have h2:PyData.depthAll (p.2.map PyData.str)=0:=pT _
   simp only[cD,PyData.depthAll,pairD,PyData.depth]at ih ⊢
   rw[h2];omega
 have:=key aa
 simp only[PyData.depth];omega
theorem yU {H:Hp}{t t':Addr}{aa:aK}{Q:VK} (h:FA H t aa) (h':FA H t' aa) (q:Q (.bl true) H):wc (.ref t) (.ref t') H Q:=by
 obtain⟨st,ws,e,fv⟩:=h
 obtain⟨_,cO,e',HK⟩:=h'
 refine⟨_,_,.tup e (sH fv),.tup e' (sH HK),pY st,pY st,BF aa,?_⟩
 rw[A1 _ (pY st)];exact q
theorem YS {H:Hp}{t t':Addr}{aa:aK}{Q:VK} (h:FA H t aa) (h':FA H t' aa) (q:Q (.bl false) H):we (.ref t) (.ref t') H Q:=by
 obtain⟨st,ws,e,fv⟩:=h
 obtain⟨_,cO,e',HK⟩:=h'
 refine⟨_,_,.tup e (sH fv),.tup e' (sH HK),pY st,pY st,BF aa,?_⟩
 rw[A1 _ (pY st)];exact q
theorem MR {H:Hp}{a b:Addr}{xs:List Str}{Q:VK} (ha:H a=some (.tup (xs.map V.str))) (hb:H b=some (.tup (xs.map V.str))) (h1:∀x∈xs,Nm x) (q:Q (.bl false) H):we (.ref a) (.ref b) H Q:=by
 refine⟨.tuple (xs.map PyData.str),.tuple (xs.map PyData.str),.tup ha (lx _ xs),.tup hb (lx _ xs),iW h1,iW h1,by show PyData.depthAll _+1<=60;rw[pT];decide,?_⟩
 rw[A1 (.tuple (xs.map PyData.str)) (iW h1)];exact q
theorem MS {H:Hp}{a b:Addr}{xs:List Str}{Q:VK} (ha:H a=some (.lst (xs.map V.str))) (hb:H b=some (.lst (xs.map V.str))) (h1:∀x∈xs,Nm x) (q:Q (.bl true) H):wc (.ref a) (.ref b) H Q:=by
 refine⟨.list (xs.map PyData.str),.list (xs.map PyData.str),.lst ha (lx _ xs),.lst hb (lx _ xs),iW h1,iW h1,by show PyData.depthAll _+1<=60;rw[pT];decide,?_⟩
 rw[A1 (.list (xs.map PyData.str)) (iW h1)];exact q
end aX
namespace aX
open PySem L2 PySem.W HT
theorem X4:Nm "ring" :=⟨by decide +kernel,by decide +kernel,by decide +kernel⟩
theorem YT:Nm "use" :=⟨by decide +kernel,by decide +kernel,by decide +kernel⟩
section
variable {P : Program} {w : World} {K : Frag} {mg : Str -> Option Value} {base : Heap} {f : Addr} {fd : FuncData}
theorem KC {D b d:Addr}{H:Hp}{ks ss:List Str}{t:Addr}{kvs:List (Key×V)}{L Ps:Str->List Str}{aa:aK}{k:Str}{Q:VK}{E:XK} (R:aW H ks t d kvs L Ps aa) (hD:H D=some (.lst (ss.map V.str))) (hp:ss.Perm ks) (hb:H b=none)
  (q:∀H',ak H H'->H' b=some (.lst ((ss.filter fun x=>!decide (k∈L x)).map V.str))->Q (.ref b) H'):ju (oO K D) (mJ 0) (tB (uf (uh K true) (iZ 1) (CA mI [] E (Cz (iZ 2) (Cz (iZ 0) NU))))) (iZ 0) [none,some (.str k),some (.ref d)] Q b H:=by
 have HL:∀x∈ss,x∈ks:=fun x hx=>hp.mem_iff.mp hx
 have ss8:ss.length<=8:=by rw[hp.length_eq];exact R.k8
 refine iV (xs:=ss.map V.str) (fun i ys τ H3=>∃t0:Option V,τ = [t0,some (.str k),some (.ref d)]/\ys=((ss.take i).filter fun x=>!decide (k∈L x)).map V.str/\ak H H3/\H3 b=some (.lst ys)) ⟨none,rfl,rfl,aF hb,ag⟩ (fun i ys τ H3 ⟨_,_,_,z1,z2⟩=>⟨z2,aj.of (z1 _ _ hD)⟩) ?_ ?_
 ·rintro i x ys τ H3 hx ⟨t0,rfl,rfl,S3,h3⟩
  have b6:i < (ss.map V.str).length:=(b9.mp hx).1
  have fX:i < ss.length:=by simpa using b6
  obtain rfl:V.str ss[i]=x:=by simpa [fX] using hx
  have tk:ss.take (i+1)=ss.take i ++ [ss[i]]:=by rw[dz,br fX];rfl
  have R3:=R.same S3
  refine⟨_,rfl,_,rfl,_,rfl,MP R3.hd R3.pl R.fm R.k8 (HL _ (iT fX)) fun l F H4 hl S4 h4 mem f8 fnd=>⟨l,_,rfl,.inl (aj.of h4),rfl,jN _,_,rfl,?_⟩⟩
  rw[ke]
  have Rh:=S4 _ _ h3
  have l3:((ss.take i).filter fun x=>!decide (k∈L x)).length<=8:=cK (gP _ _) (by rw[dq];omega)
  refine eF (fun eP=>?_) (fun eP=>?_)
  ·have oM:k ∉ L ss[i]:=fun z=>by
    have:k∈F:=(mem k).mpr z
    simp[this]at eP
   refine⟨_,rfl,Rh,by rw[aE,aI];omega,cw_next b6 ⟨_,rfl,?_,fun c u e=>?_,ag⟩⟩
   ·rw[tk,ji,pQ (by simpa using oM),bV];rfl
   ·rw[ah (ao e hb)];exact S4 _ _ (S3 _ _ e)
  ·have oM:k∈L ss[i]:=by
    refine Uj fun z=>eP ?_
    have:k ∉ F:=fun y=>z ((mem k).mp y)
    simp[this]
   refine cw_next b6 ⟨_,rfl,?_,S3.trans S4,Rh⟩
   rw[tk,ji,rL (by simpa using oM)];simp
 ·rintro ys τ H3 ⟨t0,rfl,rfl,S3,h3⟩
  rw[aE,d5]at h3
  exact q H3 S3 h3
@[irreducible] def tV:Sp:=fun vs H Q _=>∃ (ks:List Str) (t d o:Addr) (kvs:List (Key×V)) (L Ps:Str->List Str) (aa:aK) (k:Str) (own:List Str) (n:Int),vs = [.ref t,.ref d,.str k,.ref o,.int n]/\aW H ks t d kvs L Ps aa/\k∈ks/\H o=some (.tup (own.map V.str))/\own.Nodup/\own.length<=4/\(∀x∈own,x∈ks/\k ∉ L x)/\0<=n /\ ∀H',ak H H'->Q (.bl true) H'
theorem ZP {ks:List Str}{t d o:Addr}{kvs:List (Key×V)}{L Ps:Str->List Str}{aa:aK}{k:Str}{own:List Str}{n:Int}{H:Hp}{Q:VK}{E:XK} (R:aW H ks t d kvs L Ps aa) (hk:k∈ks) (ho:H o=some (.tup (own.map V.str))) (nd:own.Nodup) (h4:own.length<=4) (bg:∀x∈own,x∈ks/\k ∉ L x) (hn:0<=n) (q:∀H',ak H H'->Q (.bl true) H'):tV [.ref t,.ref d,.str k,.ref o,.int n] H Q E:=by
 unfold tV;exact⟨ks,t,d,o,kvs,L,Ps,aa,k,own,n,rfl,R,hk,ho,nd,h4,bg,hn,q⟩
abbrev Ri:List Str:= ["_law_family_here", "_law_parents_here", "_law_kind", "_law_own", "_law_number", "_law_there", "_law_refusal", "_law_e", "_law_beside", "_law_one"]
theorem qE:bZ Ri ["_law_family_here", "_law_parents_here", "_law_kind", "_law_own", "_law_number"] (ay oq):=⟨rfl,rfl,rfl,by decide +kernel,rfl,by decide +kernel,by decide +kernel⟩
abbrev eTb:Expr:=eW (cw (aQ oq) 3)
theorem OR:cf Ri (ay oq) ["_law_one", "_law_kind", "_law_parents_here"] [none,some 2,some 1] (cR eTb):=⟨rfl,by decide +kernel,by decide +kernel,rfl,d7 (by decide +kernel),by decide +kernel⟩
theorem ZQ {c:Nat->Addr}{B0 fC fL fO fF:Addr}{dC dL dO dF:FuncData} (F:aZ K "_law_there_and_back" "_law_there_and_back" oq f fd) (B:eK mg) (B2:jz mg)
  (mB:mg "LineError" = some (.ref B0)) (qB:∃ci,dI K B0 ci=true) (me:mroIn K (c 12) (.ref B0)=some true) (xc:dh K (c 12))
  (GC:aG P w K mg base (c8 P w) 7 fC dC ["family", "kind", "parents"] (tQ (c 12))) (kC:keepIn K (.ref fC)=true) (bC:Binds K dC ["family", "kind", "parents"] []) (mC:mg "kind_changed" = some (.ref fC))
  (GL:sU P w K mg base 1 fL dL ["_law_e"] (qC K c)) (kL:keepIn K (.ref fL)=true) (bL:Binds K dL ["_law_e"] []) (mL:mg "_law_classes" = some (.ref fL))
  (GO:aG P w K mg base aL 6 fO dO ["family", "kind"] nX) (kO:keepIn K (.ref fO)=true) (bO:Binds K dO ["family", "kind"] []) (mO:mg "line_of" = some (.ref fO))
  (GF:aG P w K mg base aL 1 fF dF ["_law_parents_here", "_law_kind"] mI) (kF:keepIn K (.ref fF)=true) (bF:Binds K dF ["_law_parents_here", "_law_kind"] []) (mF:mg "_law_forebears" = some (.ref fF)) :
  aG P w K mg base aL 8 f fd ["_law_family_here", "_law_parents_here", "_law_kind", "_law_own", "_law_number"] tV:=by
 obtain⟨ci,qB⟩:=qB
 refine F.ok qE (fun vs H Q E h=>?_) (fun cdv A outer s H vs Q E hr h=>?_)
 ·unfold tV at h;obtain⟨ks,t,d,o,kvs,L,Ps,aa,k,own,n,rfl,_⟩:=h;rfl
 ·unfold tV at h
  obtain⟨ks,t,d,o,kvs,L,Ps,aa,k,own,n,rfl,R,hk,ho,nd,h4,bg,hn,q⟩:=h
  have hu:=hr.units
  have eu:=nP (nQ (show 1<=64 by decide) _) hu
  have lj:aT 7 _:=hr
  have gE:aT 6 _:=lj.mono (by decide)
  have cC:aT 1 _:=lj.mono (by decide)
  refine⟨_,aC (MV (i:=5) (j:=6) rfl qE.nd rfl rfl (by decide) rfl rfl (ae iE (ae (cQ ai) ai)) rfl)
   (aC (LS (j:=7) (C:=B0) (fun pins D=>aM (a9 (i:=5) qE.nd rfl (Or.inl rfl) (BR GC lj rfl mC kC bC (ae (pv 0) (ae (pv 2) (ae (pv 3) ai))))))
     qE.nd rfl rfl rfl rfl rfl rfl rfl mB qB (fun a=>aM (a9 (i:=6) qE.nd rfl (Or.inl rfl) (L6 GL (cC.marked _) rfl mL kL bL aV (ae (pv 7) ai)))))
   (aC (cN (cE (mx hu) (pv 6) (cQ ai) (cP _)) (aM (bo (ki (sL hu) (pv 6) (cQ (ae jq ai)) (cP _)))) cM)
   (aC (rS (i:=8) rfl OR qE.nd rfl rfl (gG (bx (yk rfl) rfl B2.sorted boot_sorted (ae (pv 1) ai))) (fun s H fp=>⟨a8 (i:=0) OR.nd rfl (Or.inl rfl),jl (cE (Be K rfl) (pv 1) (aR GF cC rfl mF kF bF .nil aV (ae (pv 2) (ae (pv 0) ai))) rfl),pv 0⟩))
   (aC (cN (cE (mx hu) (pv 8) (cQ ai) (cP _))
    (aC (a9 (i:=9) qE.nd rfl (Or.inl rfl) (cz gH (pv 8) (cH qa (pv 4) (bx iU rfl B.len hW (ae (pv 8) ai))) (fun _ _=>rfl)))
    (aM (cN (cE (mx hu) (aR GO gE rfl mO kO bO .nil aV (ae (pv 5) (ae (pv 9) ai))) (aR GO gE rfl mO kO bO .nil aV (ae (pv 0) (ae (pv 9) ai))) (cP _)) (aM (bo km)) cM))) cM)
   (aM (bo (ki (sL hu) (aR GC lj rfl mC kC bC .nil vw (ae (pv 5) (ae (pv 2) (ae (fb j' rfl B.tuple boot_tuple (ae (nZ eu (pv 1) (pv 2) (fun _ _=>rfl)) ai)) ai)))) (pv 0) (cP _)))))))),?_⟩
  have Rj:∀x∈([("ring" : Str)]:List Str),Nm x:=fun x hx=>by rw[eN.mp hx];exact X4
  refine⟨a4 _,fun r0 nF=>⟨_,_,rfl,?_⟩⟩
  have S0:=aF (o:= .lst []) nF
  have e0:upd H r0 (.lst []) r0=some (.lst (([]:List Str).map V.str)):=ag
  generalize upd H r0 (.lst [])=H0 at S0 e0 ⊢
  have R0:=R.same S0
  have pC:=R.stC hk nd h4 fun x hx=>(bg x hx).1
  refine⟨_,rfl,_,rfl,_,rfl,CP R0.fa R.all (R.key.mpr hk) (S0 _ _ ho) nd h4 (fun x hx=>R.key.mpr (bg x hx).1) (fun x hx=>by rw[R.line (bg x hx).1];exact(bg x hx).2) pC (fun na a H1 S1 rf=>?_) fun t1 told H1 rn ft pm so fr=>?_⟩
  ·refine⟨⟨c 12,rfl,me⟩,a,rfl,?_⟩
   obtain⟨cc,C',dd,jF,ea,ed,ne,ec⟩:=rf
   have ct:l0 K c H1 (some (.ref a)) a 12:=⟨⟨_,_,ea,fun d' e=>by cases e;exact ed⟩,xc,by decide,rfl,⟨a,_,_,rfl,.inr ⟨cc,C',jF,ea,ne,ec⟩⟩⟩
   refine⟨_,rfl,NL ct fun l H2 S2 h2=>?_⟩
   have h2:H2 l=some (.lst ([("ring" : Str)].map V.str)):=h2
   have S2:=S0.trans (S1.trans S2)
   refine⟨_,rfl,a4 _,fun z hz=>?_⟩
   have Sz:=aF (o:= .lst []) hz
   refine ne_nil (xs:= ["ring"]) (Sz _ _ h2) ag Rj ⟨_,rfl,?_⟩
   refine⟨_,rfl,by show 1<=sizeLine;rw[aI];decide,fun y hy=>?_⟩
   have Sy:=Sz.trans (aF (o:= .lst [V.str "ring"]) hy)
   exact MS (xs:= ["ring"]) (Sy _ _ h2) ag Rj (q _ (S2.trans Sy))
  ·have S1:=S0.trans rn
   have R1:=R.same S1
   have e1:H1 r0=some (.lst (([]:List Str).map V.str)):=rn _ _ e0
   refine⟨_,rfl,a4 _,fun z hz=>?_⟩
   have Sz:=aF (o:= .lst []) hz
   refine ne_nil (xs:= []) (Sz _ _ e1) ag (fun x hx=>by cases hx) ⟨_,rfl,?_⟩
   have S2:=S1.trans Sz
   have Rk:=ft.same Sz
   generalize upd H1 z (.lst [])=H2 at S2 Rk Sz ⊢
   have R2:=R.same S2
   have frW:lN (b8 aa k own):=fun p hp hx=>(yM pC pm).mp (fr p (pm.mem_iff.mpr hp) fun x h=>(yM pC pm).mpr (hx x h))
   have HM:=R.abl hk (fun x hx=>(bg x hx).1) (fun x hx=>(bg x hx).2) pC frW
   have HN:eG told:=(sj pC pm).mpr HM
   have CQ:∀ {x},x∈ks->k ∉ L x->de told x=L x:=fun {x} hx eP=>by
    have hl:=R.ZO pC hk hx eP
    have:Ln (b8 aa k own) x:=by
     have:=(R.key.mpr hx)
     by_cases e:x=k
     ·exact HM (k,own) (iB.mpr (.inr rfl)) |> fun z=>e ▸ z
     ·exact HM (x,Ps x) (iB.mpr (.inl ⟨R.mem.mpr ⟨hx,rfl⟩,e⟩))
    rw[V6 pC pm this,hl]
   have tW:∀ {x},x∈ks->x∈keysOf told:=fun {x} hx=>by
    by_cases e:x=k
    ·exact bf.mpr ⟨(k,own),pm.mem_iff.mpr (iB.mpr (.inr rfl)),e.symm⟩
    ·exact bf.mpr ⟨(x,Ps x),pm.mem_iff.mpr (iB.mpr (.inl ⟨R.mem.mpr ⟨hx,rfl⟩,e⟩)),rfl⟩
   refine⟨_,rfl,d,kvs,ks,rfl,R2.hd,R.hk,cK R.k8 (by decide),fun D ss hD hp hs=>?_⟩
   have SD:=S2.trans (aF (o:= .lst (ss.map V.str)) hD)
   have eD:upd H2 D (.lst (ss.map V.str)) D=some (.lst (ss.map V.str)):=ag
   have Rl:=Rk.same (aF (o:= .lst (ss.map V.str)) hD)
   generalize upd H2 D (.lst (ss.map V.str))=HD at SD eD Rl ⊢
   have RD:=R.same SD
   refine⟨D,rfl,⟨_,aj.of eD⟩,fun b hb=>KC RD eD hp hb fun H3 Rm h3=>?_⟩
   ·have HL:∀x∈ss,x∈ks:=fun x hx=>hp.mem_iff.mp hx
    have S3:=SD.trans Rm
    have ft3:=Rl.same Rm
    have stT:bp told:=ft.1
    have tX:∀x∈ss.filter fun x=>!decide (k∈L x),x∈ks/\k ∉ L x:=fun x hx=>by
     obtain⟨h1,h2⟩:=hV.mp hx
     exact⟨HL x h1,by simpa using h2⟩
    generalize (ss.filter fun x=>!decide (k∈L x))=bs at h3 tX
    have gX:bp (b8 told k (Ps k)):=B1 stT (by rw[pm.length_eq];have:=pC.bb;have:=R.k8;have:=R.len;have h9:(b8 aa k own).length<=aa.length+1:=(by unfold b8;rw[c9];exact Nat.add_le_add_right (gP _ _) _);omega) (R.nm k hk) (R.fm.ps k hk).1 (R.fm.ps k hk).2.1 fun x hx=>tW (R.pin hk hx)
    have mZ:(b8 told k (Ps k)).Perm aa:=Me gX R.st fun p=>by
     rw[iB,pm.mem_iff,iB]
     constructor
     ·rintro(⟨⟨h,_⟩|rfl,ne⟩|rfl)
      ·exact h
      ·exact absurd rfl ne
      ·exact R.mem.mpr ⟨hk,rfl⟩
     ·intro h
      by_cases e:p.1=k
      ·exact .inr (Prod.ext e ((R.mem.mp h).2.trans (by rw[e])))
      ·exact .inl ⟨.inl ⟨h,e⟩,e⟩
    refine⟨_,rfl,a4 _,fun z2 uq=>?_⟩
    have Ar:=aF (o:= .lst []) uq
    refine ne_nil (xs:=bs) (Ar _ _ h3) ag (fun x hx=>R.nm x (tX x hx).1) ⟨_,rfl,?_⟩
    have S4:=S3.trans Ar
    have xP:=ft3.same Ar
    have As:=Ar _ _ h3
    generalize upd H3 z2 (.lst [])=H4 at S4 xP As ⊢
    refine eF (fun bc=>?_) (fun bc=>?_)
    ·have pos:0 < bs.length:=by
      cases bs with
      | nil=>cases bc
      | cons _ _=>exact Nat.succ_pos _
     refine⟨_,rfl,_,rfl,_,rfl,b,_,rfl,.inl (aj.of As),_,_,rfl,rfl,by show(0:Int) < _;rw[aE];omega,?_⟩
     obtain⟨j,ej,hj⟩:=MQ (n:=n) (m:=((bs.map V.str).length:Int)) (by rw[aE];omega)
     have xQ:j < bs.length:=by rw[aE]at hj;omega
     dsimp only
     rw[ej]
     obtain⟨xR,hbn⟩:=tX _ (iT xQ)
     refine⟨b,_,_,.str bs[j],rfl,rfl,aj.of As,eO (by rw[f6,br xQ];rfl),?_⟩
     refine⟨_,rfl,_,rfl,r8 xP HN (tW xR) fun p1 H5 S5 h5=>?_⟩
     refine⟨_,rfl,_,rfl,r8 (R.same (S4.trans S5)).fa R.all (R.key.mpr xR) fun p2 H6 S6 h6=>?_⟩
     rw[CQ xR hbn]at h5
     rw[R.line xR]at h6
     refine MR (S6 _ _ h5) h6 (R.HI xR) ⟨_,rfl,?_⟩
     have SJ:=S4.trans (S5.trans S6)
     have fJ:=xP.same (S5.trans S6)
     clear As S4 xP h5 h6 S5 S6
     obtain⟨pa,gp,gm⟩:=(R.same SJ).get hk
     refine⟨_,rfl,_,rfl,_,rfl,_,rfl,d,.ref pa,rfl,gp,pa,_,rfl,.inl ⟨aj.of gm,fun tp jK=>?_⟩⟩
     have St:=aF (o:= .tup ((Ps k).map V.str)) jK
     refine CP (fJ.same St) HN (tW hk) ag (R.fm.ps k hk).1 (R.fm.ps k hk).2.1 (fun x hx=>tW (R.pin hk hx)) (fun x hx=>by rw[CQ (R.pin hk hx) (R.wA hk hx)];exact R.wA hk hx) gX (fun na=>absurd ((sj R.st mZ).mpr R.all) na) fun t2 ql H8 S8 f8 rA rB _=>?_
     have e2:ql=aa:=vG rB R.so (rA.trans mZ)
     subst e2
     have SE:=SJ.trans (St.trans S8)
     exact⟨_,rfl,yU f8 (R.same SE).fa (q _ SE)⟩
    ·have SJ:=S4
     have fJ:=xP
     obtain⟨pa,gp,gm⟩:=(R.same SJ).get hk
     refine⟨_,rfl,_,rfl,_,rfl,_,rfl,d,.ref pa,rfl,gp,pa,_,rfl,.inl ⟨aj.of gm,fun tp jK=>?_⟩⟩
     have St:=aF (o:= .tup ((Ps k).map V.str)) jK
     refine CP (fJ.same St) HN (tW hk) ag (R.fm.ps k hk).1 (R.fm.ps k hk).2.1 (fun x hx=>tW (R.pin hk hx)) (fun x hx=>by rw[CQ (R.pin hk hx) (R.wA hk hx)];exact R.wA hk hx) gX (fun na=>absurd ((sj R.st mZ).mpr R.all) na) fun t2 ql H8 S8 f8 rA rB _=>?_
     have e2:ql=aa:=vG rB R.so (rA.trans mZ)
     subst e2
     have SE:=SJ.trans (St.trans S8)
     exact⟨_,rfl,yU f8 (R.same SE).fa (q _ SE)⟩
end
end aX
namespace aX
open PySem L2 PySem.W HT
theorem iD {aa:aK}{k:Str}{p:Str×List Str}:p∈cg aa k ↔ p∈aa/\p.1≠k:=by
 unfold cg
 rw[hV];simp
theorem BG {aa:aK}{k:Str}:f7 aa k = [] ↔ ∀p∈aa,k ∉ p.2:=by
 unfold f7
 rw[List.map_eq_nil_iff,List.filter_eq_nil_iff]
 simp
theorem Mf {aa:aK}{k:Str}:(aa.map fun p=>decide (k∈p.2)).any id = !decide (f7 aa k = []):=by
 rw[rD]
 simp only[AM,pN,Bool.not_eq_true',decide_eq_false_iff_not,BG]
 constructor
 ·rintro⟨p,hp,h⟩ z
  exact z p hp (uZ h)
 ·intro z
  refine Uj fun y=>z fun p hp h=>y ⟨p,hp,gO h⟩
theorem Ct {aa:aK} (st:bp aa) {k:Str} (no:∀p∈aa,k ∉ p.2):bp (cg aa k):=by
 refine⟨Uh (Ui.map _) st.nd,cK (gP _ _) st.bb,fun p hp=>st.nm p (iD.mp hp).1,fun p hp x hx=>?_,fun p hp=>st.four p (iD.mp hp).1,fun p hp=>st.j5 p (iD.mp hp).1⟩
 have jc:=(iD.mp hp).1
 obtain⟨q,hq,rfl⟩:=st.up p jc x hx
 exact⟨q,iD.mpr ⟨hq,fun e=>no p jc (by rw[<-e];exact hx)⟩,rfl⟩
def ZR (e:Expr):Expr:=match e with | .Compare _ _ (b::_) _=>b | _=>.Constant .none 0 ⟨0,0,0,0⟩
theorem X5 {H:Hp}{t u:Addr}{aa:aK}{Q:VK} (h:FA H t aa) (hu:H u=some (.tup [])) (q:Q (.bl (!aa.isEmpty)) H):we (.ref t) (.ref u) H Q:=by
 obtain⟨st,ws,e,fv⟩:=h
 refine⟨_,.tuple [],.tup e (sH fv),.tup hu .nil,pY st,rfl,BF aa,?_⟩
 cases aa <;> exact q
section
variable {P : Program} {w : World} {K : Frag} {mg : Str -> Option Value} {base : Heap} {f : Addr} {fd : FuncData}
theorem LI {t c:Addr}{H:Hp}{ws:List V}{aa:aK}{k:Str}{Q:VK} (ht:H t=some (.tup ws)) (hf:bu H ws aa) (hl:aa.length<=20) (hc:H c=none) (q:Q (.ref c) (upd H c (.lst ((aa.map fun p=>decide (k∈p.2)).map V.bl)))) :
  ju (nh K t) (CZ K 2 (Cw (mJ 0) (Cw (mJ 1) NQ))) vO (uf (uh K false) (iZ 2) (iZ 1)) [none,none,some (.str k)] Q c H:=by
 have hlen:=hf.length
 refine mq (xs:=ws) (fun i ys τ H2=>∃t0 t1:Option V,τ = [t0,t1,some (.str k)]/\ys=((aa.take i).map fun p=>decide (k∈p.2)).map V.bl/\H2=upd H c (.lst ys)) ⟨none,none,rfl,rfl,rfl⟩ (fun i ys τ H2 ⟨_,_,_,_,z⟩=>by rw[z];exact⟨ag,aJ.of (by rw[ah (ao ht hc)];exact ht)⟩) ?_ ?_
 ·rintro i x ys τ H2 hx ⟨t0,t1,rfl,rfl,rfl⟩
  have aS:i < ws.length:=(b9.mp hx).1
  obtain⟨p,Hy,a,b,rfl,ha,hb⟩:=jR hf hx
  have tk:aa.take (i+1)=aa.take i ++ [p]:=by rw[dz,Hy];rfl
  refine⟨a,_,rfl,aJ.of (by rw[ah (ao ha hc)];exact ha),rfl,_,_,rfl,_,_,rfl,rfl,?_⟩
  refine⟨_,rfl,_,rfl,b,_,rfl,.inr (aJ.of (by rw[ah (ao hb hc)];exact hb)),rfl,jN _,?_⟩
  rw[aq cU,ke]
  refine⟨ag,by rw[aE,aE,dq,aI];omega,cw_next aS ⟨_,_,rfl,?_,by rw[jo]⟩⟩
  rw[tk,bV,bV];rfl
 ·rintro ys τ H2 ⟨t0,t1,rfl,rfl,rfl⟩
  rw[hlen,d5]
  exact q
@[irreducible] def tY:Sp:=fun vs H Q _=>∃ (ks:List Str) (t d:Addr) (kvs:List (Key×V)) (L Ps:Str->List Str) (aa:aK) (k:Str) (n:Int),vs = [.ref t,.ref d,.str k,.int n]/\aW H ks t d kvs L Ps aa/\k∈ks/\0<=n /\ ∀H',ak H H'->Q (.bl true) H'
theorem ZS {ks:List Str}{t d:Addr}{kvs:List (Key×V)}{L Ps:Str->List Str}{aa:aK}{k:Str}{n:Int}{H:Hp}{Q:VK}{E:XK} (R:aW H ks t d kvs L Ps aa) (hk:k∈ks) (hn:0<=n) (q:∀H',ak H H'->Q (.bl true) H'):tY [.ref t,.ref d,.str k,.int n] H Q E:=by
 unfold tY;exact⟨ks,t,d,kvs,L,Ps,aa,k,n,rfl,R,hk,hn,q⟩
abbrev HP:List Str:= ["_law_family_here", "_law_parents_here", "_law_kind", "_law_number", "_law_out", "_law_refusal", "_law_e", "_law_one"]
theorem tZ:bZ HP ["_law_family_here", "_law_parents_here", "_law_kind", "_law_number"] (ay lL):=⟨rfl,rfl,rfl,by decide +kernel,rfl,by decide +kernel,by decide +kernel⟩
abbrev abm:Expr:=ig (Cr (cw (aQ lL) 2))
abbrev abn:Expr:=ig (ZR (Cq (Cr (cw (aQ lL) 3)) 2))
theorem CS:cf HP (ay lL) ["_law_one", "_law_own", "_law_kind"] [none,none,some 2] (cR abm):=⟨rfl,by decide +kernel,by decide +kernel,rfl,d7 (by decide +kernel),by decide +kernel⟩
theorem NM:cf HP (ay lL) ["_law_pair", "_law_kind"] [none,some 2] (cR abn):=⟨rfl,by decide +kernel,by decide +kernel,rfl,d7 (by decide +kernel),by decide +kernel⟩
theorem ZT {c:Nat->Addr}{B0 fG fL fO fM:Addr}{dG dL dO dM:FuncData} (F:aZ K "_law_out_and_in" "_law_out_and_in" lL f fd) (B:eK mg) (B2:jz mg)
  (mB:mg "LineError" = some (.ref B0)) (qB:∃ci,dI K B0 ci=true) (me:mroIn K (c 4) (.ref B0)=some true) (xc:dh K (c 4))
  (GG:aG P w K mg base (c8 P w) 5 fG dG ["family", "kind"] (qA (c 4))) (kG:keepIn K (.ref fG)=true) (bG:Binds K dG ["family", "kind"] []) (mG:mg "kind_let_go" = some (.ref fG))
  (GL:sU P w K mg base 1 fL dL ["_law_e"] (qC K c)) (kL:keepIn K (.ref fL)=true) (bL:Binds K dL ["_law_e"] []) (mL:mg "_law_classes" = some (.ref fL))
  (GO:aG P w K mg base aL 6 fO dO ["family", "kind"] nX) (kO:keepIn K (.ref fO)=true) (bO:Binds K dO ["family", "kind"] []) (mO:mg "line_of" = some (.ref fO))
  (GM:aG P w K mg base aL 7 fM dM ["family", "kind", "parents"] tR) (kM:keepIn K (.ref fM)=true) (bM:Binds K dM ["family", "kind", "parents"] []) (mM:mg "kind_made" = some (.ref fM)) :
  aG P w K mg base aL 8 f fd ["_law_family_here", "_law_parents_here", "_law_kind", "_law_number"] tY:=by
 obtain⟨ci,qB⟩:=qB
 refine F.ok tZ (fun vs H Q E h=>?_) (fun cdv A outer s H vs Q E hr h=>?_)
 ·unfold tY at h;obtain⟨ks,t,d,kvs,L,Ps,aa,k,n,rfl,_⟩:=h;rfl
 ·unfold tY at h
  obtain⟨ks,t,d,kvs,L,Ps,aa,k,n,rfl,R,hk,hn,q⟩:=h
  have hu:=hr.units
  have eu:=nP (nQ (show 1<=64 by decide) _) hu
  have lj:aT 7 _:=hr
  have gE:aT 6 _:=lj.mono (by decide)
  have j6:aT 5 _:=lj.mono (by decide)
  have cC:aT 1 _:=lj.mono (by decide)
  refine⟨_,aC (MV (i:=4) (j:=5) rfl tZ.nd rfl rfl (by decide) rfl rfl (ae iE (ae (cQ ai) ai)) rfl)
   (aC (LS (j:=6) (C:=B0) (fun pins D=>aM (a9 (i:=4) tZ.nd rfl (Or.inl rfl) (BR GG j6 rfl mG kG bG (ae (pv 0) (ae (pv 2) ai)))))
     tZ.nd rfl rfl rfl rfl rfl rfl rfl mB qB (fun a=>aM (a9 (i:=5) tZ.nd rfl (Or.inl rfl) (L6 GL (cC.marked _) rfl mL kL bL aV (ae (pv 6) ai)))))
   (aC (cN (ib (bx (Bx rfl) rfl B.any boot_any (ae (ff rfl CS (mr (pv 0)) (fun s H fp=>⟨Mb (n:=2) K rfl rfl (gQ (a8 (i:=0) CS.nd rfl (Or.inl rfl)) (gQ (a8 (i:=1) CS.nd rfl (Or.inl rfl)) nY)),iC,ki (B8 K rfl) (pv 2) (pv 1) rfl⟩)) ai)))
    (aM (bo (Cf (ki vz (pv 4) iE (cP _)) (Ce (ki (sL hu) (pv 5) (cQ (ae jq ai)) (cP _)))))) cM)
   (aC (cN (PW.pt (pw_or (cE (mx hu) (pv 5) (cQ ai) (cP _)) (pw_or (iX (ib (bx BN rfl B2.xG vn (ae (pv 4) (ae (yI (v:= .ty "tuple") rfl B.tuple boot_tuple rfl) ai)))))
     (pw_or1 (cE (mx hu) (pv 4) (fb j' rfl B.tuple boot_tuple (ae (ff rfl NM (mr (pv 0)) (fun s H fp=>⟨a8 (i:=0) NM.nd rfl (Or.inl rfl),jl (cE vN (cz (vj K rfl) (pv 0) aP (fun _ _=>rfl)) (pv 1) (cP _)),pv 0⟩)) ai)) (cP _)))))) (aM (bo km)) cM)
   (aC (cN (cE (mx hu) (pv 4) (mw ai) (cP _))
    (aC (a9 (i:=7) tZ.nd rfl (Or.inl rfl) (cz og (cz og (pv 4) (cH qa (pv 3) (bx iU rfl B.len hW (ae (pv 4) ai))) (fun _ _=>rfl)) aP (fun _ _=>rfl)))
    (aM (cN (cE (mx hu) (aR GO gE rfl mO kO bO .nil aV (ae (pv 4) (ae (pv 7) ai))) (aR GO gE rfl mO kO bO .nil aV (ae (pv 0) (ae (pv 7) ai))) (cP _)) (aM (bo km)) cM))) cM)
   (aM (bo (ki (sL hu) (aR GM lj rfl mM kM bM .nil aV (ae (pv 4) (ae (pv 2) (ae (fb j' rfl B.tuple boot_tuple (ae (nZ eu (pv 1) (pv 2) (fun _ _=>rfl)) ai)) ai)))) (pv 0) (cP _)))))))),?_⟩
  have nmu:∀x∈([("use" : Str)]:List Str),Nm x:=fun x hx=>by rw[eN.mp hx];exact YT
  refine⟨a4 _,fun r0 nF=>⟨_,_,rfl,?_⟩⟩
  have S0:=aF (o:= .lst []) nF
  have e0:upd H r0 (.lst []) r0=some (.lst (([]:List Str).map V.str)):=ag
  generalize upd H r0 (.lst [])=H0 at S0 e0 ⊢
  have f8:aa.length<=8:=by rw[R.len];exact R.k8
  refine⟨_,rfl,_,rfl,NK (R.same S0).fa (R.key.mpr hk) (fun bc a H1 S1 ea=>?_) fun he r1 ws1 H1 rn h1 F1=>?_⟩
  ·refine⟨⟨c 4,rfl,me⟩,a,rfl,?_⟩
   have ct:l0 K c H1 (some (.ref a)) a 4:=⟨⟨_,_,ea,fun d' e=>by cases e⟩,xc,by decide,rfl,⟨a,_,_,rfl,.inl ea⟩⟩
   refine⟨_,rfl,NL ct fun l H2 S2 h2=>?_⟩
   have h2:H2 l=some (.lst ([("use" : Str)].map V.str)):=h2
   have S2:=S0.trans (S1.trans S2)
   obtain⟨ws,Rn,lb⟩:=(R.same S2).fv
   refine⟨_,rfl,t,rfl,⟨_,aJ.of Rn⟩,fun b hb=>LI Rn lb (by omega) hb ?_⟩
   have Sb:=aF (o:= .lst ((aa.map fun p=>decide (k∈p.2)).map V.bl)) hb
   refine⟨b,_,rfl,aj.of ag,_,rfl,?_⟩
   rw[Mf,je bc]
   refine⟨_,rfl,rfl,_,rfl,?_⟩
   refine⟨_,rfl,by show 1<=sizeLine;rw[aI];decide,fun y hy=>?_⟩
   have Sy:=Sb.trans (aF (o:= .lst [V.str "use"]) hy)
   exact MS (xs:= ["use"]) (Sy _ _ h2) ag nmu (q _ (S2.trans Sy))
  ·have no:=BG.mp he
   have S1:=S0.trans rn
   have e1:=rn _ _ e0
   obtain⟨ws,nG,j3⟩:=(R.same S1).fv
   refine⟨_,rfl,t,rfl,⟨_,aJ.of nG⟩,fun b hb=>LI nG j3 (by omega) hb ?_⟩
   have Sb:=aF (o:= .lst ((aa.map fun p=>decide (k∈p.2)).map V.bl)) hb
   refine⟨b,_,rfl,aj.of ag,_,rfl,?_⟩
   rw[Mf,gO he]
   have xS:=Ct R.st no
   have S2:=S1.trans Sb
   have fO:FA (upd H1 b (.lst ((aa.map fun p=>decide (k∈p.2)).map V.bl))) r1 (cg aa k):=⟨xS,ws1,Sb _ _ h1,F1.same Sb⟩
   have e2:=Sb _ _ e1
   generalize upd H1 b (.lst ((aa.map fun p=>decide (k∈p.2)).map V.bl))=H2 at S2 fO e2 ⊢
   refine⟨_,rfl,a4 _,fun z hz=>?_⟩
   have Sz:=aF (o:= .lst []) hz
   refine ne_nil (xs:= []) (Sz _ _ e2) ag (fun x hx=>by cases hx) ⟨_,rfl,?_⟩
   have S3:=S2.trans Sz
   have f3:=fO.same Sz
   generalize upd H2 z (.lst [])=H3 at S3 f3 ⊢
   obtain⟨_,ws3,h3,F3⟩:=id f3
   refine⟨_,rfl,⟨_,.inr ⟨"tuple", rfl⟩⟩,.ref r1,.ty "tuple", .type "tuple", .type "tuple", true,rfl,rfl,.inl (.tup h3),rfl,true,rfl,?_⟩
   obtain⟨cO,HQ,eJ⟩:=(R.same S3).fv
   refine⟨_,rfl,_,rfl,t,rfl,⟨_,aJ.of HQ⟩,fun b2 nu=>?_⟩
   have hlen:=eJ.length
   have hl:aa.length<=15:=by omega
   refine mq (xs:=cO) (fun i ys τ G1=>∃t0:Option V,τ = [t0,some (.str k)]/\bu H3 ys (cg (aa.take i) k)/\G1=upd H3 b2 (.lst ys)) ⟨none,rfl,.nil,rfl⟩ (fun i ys τ G1 ⟨_,_,_,z⟩=>by rw[z];exact⟨ag,aJ.of (by rw[ah (ao HQ nu)];exact HQ)⟩) ?_ ?_
   ·rintro i x ys τ G1 hx ⟨t0,rfl,F1,rfl⟩
    have aS:i < cO.length:=(b9.mp hx).1
    obtain⟨p,hp,a,b,rfl,ha,hb⟩:=jR eJ hx
    have tk:aa.take (i+1)=aa.take i ++ [p]:=by rw[dz,hp];rfl
    refine⟨_,rfl,a,_,0,.str p.1,rfl,rfl,aJ.of (by rw[ah (ao ha nu)];exact ha),(show ee [V.str p.1,V.ref b] ((0:Nat):Int)=some (.str p.1) from eO rfl),_,rfl,rfl,_,rfl,?_⟩
    refine eF (fun bc=>?_) (fun bc=>?_)
    ·have i5:p.1≠k:=fun z=>by rw[z]at bc;simp at bc
     refine⟨_,rfl,ag,?_,cw_next aS ⟨_,rfl,?_,by rw[jo]⟩⟩
     ·have h1:=F1.length
      have h2:(cg (aa.take i) k).length<=(aa.take i).length:=gP _ _
      rw[dq]at h2
      rw[aI];omega
     ·have e1:cg (aa.take (i+1)) k=cg (aa.take i) k ++ [p]:=by rw[tk];unfold cg;rw[ji,pQ (by simpa using i5)];rfl
      rw[e1]
      exact bu.append F1 ha hb
    ·have i5:p.1=k:=by
      by_cases z:p.1=k
      ·exact z
      ·exact absurd (by simp[z]) bc
     refine cw_next aS ⟨_,rfl,?_,rfl⟩
     have e1:cg (aa.take (i+1)) k=cg (aa.take i) k:=by rw[tk];unfold cg;rw[ji,rL (by simpa using i5)];simp
     rw[e1];exact F1
   ·rintro ys τ G1 ⟨t0,rfl,F1,rfl⟩
    rw[hlen,d5]at F1
    refine⟨b2,_,rfl,.inl ⟨aj.of ag,fun r2 jI=>?_⟩⟩
    have St:=(aF (o:= .lst ys) nu).trans (aF (o:= .tup ys) jI)
    have f4:=f3.same St
    have S4:=S3.trans St
    refine YS f4 ⟨xS,ys,ag,F1.same St⟩ ⟨_,rfl,?_⟩
    generalize upd (upd H3 b2 (.lst ys)) r2 (.tup ys)=H4 at f4 S4 ⊢
    have DI:∀x∈Ps k,x∈keysOf (cg aa k):=fun x hx=>bf.mpr ⟨(x,Ps x),iD.mpr ⟨R.mem.mpr ⟨R.pin hk hx,rfl⟩,fun e=>R.wA hk hx (by rw[<-show x=k from e];exact R.self (R.pin hk hx))⟩,rfl⟩
    have stM:bp (b8 (cg aa k) k (Ps k)):=B1 xS (cK (gP _ _) (by omega)) (R.nm k hk) (R.fm.ps k hk).1 (R.fm.ps k hk).2.1 DI
    have mZ:(b8 (cg aa k) k (Ps k)).Perm aa:=Me stM R.st fun p=>by
     rw[iB,iD]
     constructor
     ·rintro(⟨⟨h,_⟩,_⟩|rfl)
      ·exact h
      ·exact R.mem.mpr ⟨hk,rfl⟩
     ·intro h
      by_cases e:p.1=k
      ·exact .inr (Prod.ext e ((R.mem.mp h).2.trans (by rw[e])))
      ·exact .inl ⟨⟨h,e⟩,e⟩
    have OS:∀x∈ks,x≠k->cJ (cg aa k) x (L x):=R.fm.has R.k8 (S:=fun y=>y≠k) fun y hy ne=>⟨iD.mpr ⟨R.mem.mpr ⟨hy,rfl⟩,ne⟩,fun z hz e=>no (y,Ps y) (R.mem.mpr ⟨hy,rfl⟩) (by rw[<-e];exact hz)⟩
    have alO:eG (cg aa k):=fun p hp=>(OS p.1 (R.mem.mp (iD.mp hp).1).1 (iD.mp hp).2).ln xS
    refine⟨_,rfl,a4 _,fun u hu0=>?_⟩
    have Su:=aF (o:= .tup []) hu0
    refine X5 (f4.same Su) ag ⟨_,rfl,?_⟩
    have S5:=S4.trans Su
    have f5:=f4.same Su
    generalize upd H4 u (.tup [])=H5 at S5 f5 ⊢
    refine eF (fun bc=>?_) (fun bc=>?_)
    ·obtain⟨_,HR,h5,F5⟩:=id f5
     have l5:=F5.length
     have pos:0 < HR.length:=by
      rw[l5]
      cases e:cg aa k with
      | nil=>rw[e]at bc;cases bc
      | cons _ _=>exact Nat.succ_pos _
     refine⟨_,rfl,_,rfl,_,rfl,r1,_,rfl,.inr (aJ.of h5),_,_,rfl,rfl,by show(0:Int) < _;omega,?_⟩
     obtain⟨j,ej,hj⟩:=MQ (n:=n) (m:=(HR.length:Int)) (by omega)
     have xQ:j < HR.length:=by omega
     dsimp only
     rw[ej]
     obtain⟨pp,hpp,a,b,ea,ha,hb⟩:=jR F5 (br xQ)
     have pj:=iD.mp (j8 hpp)
     have jb:=(R.mem.mp pj.1).1
     refine⟨r1,_,_,.ref a,rfl,rfl,aJ.of h5,eO (by rw[br xQ,ea]),?_⟩
     refine⟨a,_,0,.str pp.1,rfl,rfl,aJ.of ha,(show ee [V.str pp.1,V.ref b] ((0:Nat):Int)=some (.str pp.1) from eO rfl),?_⟩
     refine⟨_,rfl,_,rfl,r8 f5 alO (bf.mpr ⟨pp,iD.mpr pj,rfl⟩) fun p1 H6 S6 h6=>?_⟩
     refine⟨_,rfl,_,rfl,r8 (R.same (S5.trans S6)).fa R.all (R.key.mpr jb) fun p2 H7 S7 h7=>?_⟩
     rw[(OS _ jb pj.2).line xS]at h6
     rw[R.line jb]at h7
     refine MR (S7 _ _ h6) h7 (R.HI jb) ⟨_,rfl,?_⟩
     have SJ:=S5.trans (S6.trans S7)
     have fJ:=f5.same (S6.trans S7)
     clear h6 h7 S6 S7
     obtain⟨pa,gp,gm⟩:=(R.same SJ).get hk
     refine⟨_,rfl,_,rfl,_,rfl,_,rfl,d,.ref pa,rfl,gp,pa,_,rfl,.inl ⟨aj.of gm,fun tp jK=>?_⟩⟩
     have St:=aF (o:= .tup ((Ps k).map V.str)) jK
     refine NJ (fJ.same St) (R.nm k hk) (fun z=>by obtain⟨p,hp,e⟩:=bf.mp z;exact(iD.mp hp).2 e) ag (R.fm.ps k hk).1 (R.fm.ps k hk).2.1 DI stM ((sj R.st mZ).mpr R.all) fun t2 ql H8 S8 HU rA rB=>?_
     have e2:ql=aa:=vG rB R.so (rA.trans mZ)
     subst e2
     have SE:=SJ.trans (St.trans S8)
     exact⟨_,rfl,yU HU (R.same SE).fa (q _ SE)⟩
    ·have SJ:=S5
     have fJ:=f5
     obtain⟨pa,gp,gm⟩:=(R.same SJ).get hk
     refine⟨_,rfl,_,rfl,_,rfl,_,rfl,d,.ref pa,rfl,gp,pa,_,rfl,.inl ⟨aj.of gm,fun tp jK=>?_⟩⟩
     have St:=aF (o:= .tup ((Ps k).map V.str)) jK
     refine NJ (fJ.same St) (R.nm k hk) (fun z=>by obtain⟨p,hp,e⟩:=bf.mp z;exact(iD.mp hp).2 e) ag (R.fm.ps k hk).1 (R.fm.ps k hk).2.1 DI stM ((sj R.st mZ).mpr R.all) fun t2 ql H8 S8 HU rA rB=>?_
     have e2:ql=aa:=vG rB R.so (rA.trans mZ)
     subst e2
     have SE:=SJ.trans (St.trans S8)
     exact⟨_,rfl,yU HU (R.same SE).fa (q _ SE)⟩
end
end aX
namespace aX
open PySem L2 PySem.W HT
theorem X6 {H:Hp}{a b:Addr}{xs:List Str}{Q:VK} (ha:H a=some (.tup (xs.map V.str))) (hb:H b=some (.tup (xs.map V.str))) (h1:∀x∈xs,Nm x) (q:Q (.bl true) H):wc (.ref a) (.ref b) H Q:=by
 refine⟨.tuple (xs.map PyData.str),.tuple (xs.map PyData.str),.tup ha (lx _ xs),.tup hb (lx _ xs),iW h1,iW h1,by show PyData.depthAll _+1<=60;rw[pT];decide,?_⟩
 rw[A1 (.tuple (xs.map PyData.str)) (iW h1)];exact q
structure jA (ks:List Str) (L:Str->List Str) (aa g:aK) (k:Str) (i:Nat):Prop where
 st:bp g
 mem:∀p,p∈g ↔ p∈aa/\(p.1∈ks.take (ks.length - i)\/p.1∈L k)
section
variable {H : Hp} {ks : List Str} {t d : Addr} {kvs : List (Key × V)} {L Ps : Str -> List Str} {aa g : aK} {k x : Str} {i : Nat}
theorem aW.OT (R:aW H ks t d kvs L Ps aa) (hk:k∈ks) {y z:Str} (hy:y∈L k) (hz:z∈L y):z∈L k:=(R.fm.rz R.k8).trans (yG R.fm) _ _ (jk hk) rfl y hy z hz
theorem aW.pL (R:aW H ks t d kvs L Ps aa) {y z:Str} (hy:y∈ks) (hz:z∈Ps y):z∈L y:=R.HJ hy hz (R.self (R.pin hy hz))
theorem BH {n:Nat} (hx:ks[ks.length - 1 - i]? = some x) (lt:i < ks.length):ks.take (ks.length - i)=ks.take (ks.length - (i+1)) ++ [x]:=by
 have e:ks.length - i=(ks.length - 1 - i)+1:=by omega
 rw[e,dz,hx,show ks.length - (i+1)=ks.length - 1 - i by omega];rfl
theorem jA.skip (b:jA ks L aa g k i) (hx:ks[ks.length - 1 - i]? = some x) (lt:i < ks.length) (h:x∈L k):jA ks L aa g k (i+1):=by
 refine⟨b.st,fun p=>?_⟩
 rw[b.mem p,BH (n:=0) hx lt,dk,eN]
 constructor
 ·rintro⟨h1,(h2 | h2)|h2⟩
  ·exact⟨h1,.inl h2⟩
  ·exact⟨h1,.inr (by rw[h2];exact h)⟩
  ·exact⟨h1,.inr h2⟩
 ·rintro⟨h1,h2 | h2⟩
  ·exact⟨h1,.inl (.inl h2)⟩
  ·exact⟨h1,.inr h2⟩
theorem jA.no (b:jA ks L aa g k i) (R:aW H ks t d kvs L Ps aa) (hk:k∈ks) (hx:ks[ks.length - 1 - i]? = some x) (lt:i < ks.length) (h:x ∉ L k):∀p∈g,x ∉ p.2:=fun p hp xM=>by
 obtain⟨h1,h2⟩:=(b.mem p).mp hp
 obtain⟨h3,h4⟩:=R.mem.mp h1
 rw[h4]at xM
 rcases h2 with h2 | h2
 ·obtain⟨j,hj,e⟩:=J8.mp h2
  have z8:j < ks.length - i:=by rw[dq]at hj;omega
  have e':ks[j]? = some p.1:=by rw[Uk]at e;rw[<-e];exact br (by omega)
  have od:=R.fm.od j p.1 e' x xM
  obtain⟨m,hm,em⟩:=J8.mp od
  have gZ:m < j:=by rw[dq]at hm;omega
  have e2:ks[m]? = some x:=by rw[Uk]at em;rw[<-em];exact br (by omega)
  have:=(AV (by omega) R.nd).mp (hx.trans e2.symm)
  omega
 ·exact h (R.OT hk h2 (R.pL h3 xM))
theorem jA.go (b:jA ks L aa g k i) (R:aW H ks t d kvs L Ps aa) (hk:k∈ks) (hx:ks[ks.length - 1 - i]? = some x) (lt:i < ks.length) (h:x ∉ L k):jA ks L aa (cg g x) k (i+1):=by
 refine⟨Ct b.st (b.no R hk hx lt h),fun p=>?_⟩
 have hn:x ∉ ks.take (ks.length - (i+1)):=fun z=>by
  obtain⟨m,hm,em⟩:=J8.mp z
  have gZ:m < ks.length - (i+1):=by rw[dq]at hm;omega
  have e2:ks[m]? = some x:=by rw[Uk]at em;rw[<-em];exact br (by omega)
  have:=(AV (by omega) R.nd).mp (hx.trans e2.symm)
  omega
 rw[iD,b.mem p,BH (n:=0) hx lt,dk,eN]
 constructor
 ·rintro⟨⟨h1,(h2 | h2)|h2⟩,ne⟩
  ·exact⟨h1,.inl h2⟩
  ·exact absurd h2 ne
  ·exact⟨h1,.inr h2⟩
 ·rintro⟨h1,h2 | h2⟩
  ·exact⟨⟨h1,.inl (.inl h2)⟩,fun e=>hn (e ▸ h2)⟩
  ·exact⟨⟨h1,.inr h2⟩,fun e=>h (e ▸ h2)⟩
theorem jA.key (b:jA ks L aa g k i) (R:aW H ks t d kvs L Ps aa) (hx:ks[ks.length - 1 - i]? = some x) (lt:i < ks.length):x∈keysOf g:=
 bf.mpr ⟨(x,Ps x),(b.mem _).mpr ⟨R.mem.mpr ⟨j8 hx,rfl⟩,.inl (by rw[BH (n:=0) hx lt];exact eU _ ba)⟩,rfl⟩
theorem jA.fin (b:jA ks L aa g k ks.length) (R:aW H ks t d kvs L Ps aa) (hk:k∈ks):g.length=(L k).length/\eG g/\de g k=L k/\k∈keysOf g:=by
 have mem:∀p,p∈g ↔ p∈aa/\p.1∈L k:=fun p=>by
  rw[b.mem p,Nat.sub_self,List.take_zero];simp
 have has:∀x∈ks,x∈L k->cJ g x (L x):=R.fm.has R.k8 (S:=fun y=>y∈L k) fun y hy sy=>⟨(mem _).mpr ⟨R.mem.mpr ⟨hy,rfl⟩,sy⟩,fun z hz=>R.OT hk sy (R.pL hy hz)⟩
 refine⟨?_,fun p hp=>?_,(has k hk (R.self hk)).line b.st,bf.mpr ⟨(k,Ps k),(mem _).mpr ⟨R.mem.mpr ⟨hk,rfl⟩,R.self hk⟩,rfl⟩⟩
 ·have:(g.map (·.1)).Perm (L k):=MO b.st.nd (R.fm.ld k hk).1 fun y=>by
   constructor
   ·intro h
    obtain⟨p,hp,rfl⟩:=bf.mp h
    exact((mem p).mp hp).2
   ·intro h
    exact bf.mpr ⟨(y,Ps y),(mem _).mpr ⟨R.mem.mpr ⟨(R.fm.ld k hk).2 y h,rfl⟩,h⟩,rfl⟩
  rw[<-this.length_eq,aE]
 ·obtain⟨h1,h2⟩:=(mem p).mp hp
  exact(has p.1 (R.mem.mp h1).1 h2).ln b.st
end
section
variable {P : Program} {w : World} {K : Frag} {mg : Str -> Option Value} {base : Heap} {f : Addr} {fd : FuncData}
@[irreducible] def t4:Sp:=fun vs H Q _=>∃ (ks:List Str) (t d:Addr) (kvs:List (Key×V)) (L Ps:Str->List Str) (aa:aK) (k:Str),vs = [.ref t,.ref d,.str k]/\aW H ks t d kvs L Ps aa/\k∈ks /\ ∀H',ak H H'->Q (.bl true) H'
theorem ZU {ks:List Str}{t d:Addr}{kvs:List (Key×V)}{L Ps:Str->List Str}{aa:aK}{k:Str}{H:Hp}{Q:VK}{E:XK} (R:aW H ks t d kvs L Ps aa) (hk:k∈ks) (q:∀H',ak H H'->Q (.bl true) H'):t4 [.ref t,.ref d,.str k] H Q E:=by
 unfold t4;exact⟨ks,t,d,kvs,L,Ps,aa,k,rfl,R,hk,q⟩
abbrev nBa:List Str:= ["_law_family_here", "_law_parents_here", "_law_kind", "_law_found", "_law_one"]
theorem zb:bZ nBa ["_law_family_here", "_law_parents_here", "_law_kind"] (ay sZ):=⟨rfl,rfl,rfl,by decide +kernel,rfl,by decide +kernel,by decide +kernel⟩
theorem ZV {C fG fO fF:Addr}{dG dO dF:FuncData} (F:aZ K "_law_bare" "_law_bare" sZ f fd) (B:eK mg) (brv:mg "reversed" = none)
  (GG:aG P w K mg base (c8 P w) 5 fG dG ["family", "kind"] (qA C)) (kG:keepIn K (.ref fG)=true) (bG:Binds K dG ["family", "kind"] []) (mG:mg "kind_let_go" = some (.ref fG))
  (GO:aG P w K mg base aL 6 fO dO ["family", "kind"] nX) (kO:keepIn K (.ref fO)=true) (bO:Binds K dO ["family", "kind"] []) (mO:mg "line_of" = some (.ref fO))
  (GF:aG P w K mg base aL 1 fF dF ["_law_parents_here", "_law_kind"] mI) (kF:keepIn K (.ref fF)=true) (bF:Binds K dF ["_law_parents_here", "_law_kind"] []) (mF:mg "_law_forebears" = some (.ref fF)) :
  aG P w K mg base aL 7 f fd ["_law_family_here", "_law_parents_here", "_law_kind"] t4:=by
 refine F.ok zb (fun vs H Q E h=>?_) (fun cdv A outer s H vs Q E hr h=>?_)
 ·unfold t4 at h;obtain⟨ks,t,d,kvs,L,Ps,aa,k,rfl,_⟩:=h;rfl
 ·unfold t4 at h
  obtain⟨ks,t,d,kvs,L,Ps,aa,k,rfl,R,hk,q⟩:=h
  have hu:=hr.units
  have gE:aT 6 _:=hr
  have j6:aT 5 _:=gE.mono (by decide)
  have cC:aT 1 _:=gE.mono (by decide)
  refine⟨_,aC (a9 (i:=3) zb.nd rfl (Or.inl rfl) (aR GO gE rfl mO kO bO .nil aV (ae (pv 0) (ae (pv 2) ai))))
   (aC (jr jM rfl (YB rfl brv (ae (fb (KQ rfl) rfl B.list boot_list (ae (pv 1) ai)) ai)) (a8 (i:=4) zb.nd rfl (Or.inl rfl))
    (aM (cN (cE u0 (pv 4) (aR GF cC rfl mF kF bF .nil aV (ae (pv 1) (ae (pv 2) ai))) rfl) (aM (a9 (i:=0) zb.nd rfl (Or.inl rfl) (aR GG j6 rfl mG kG bG .nil vw (ae (pv 0) (ae (pv 4) ai))))) cM)))
   (aM (bo (Cf (ki Nh (bx iU rfl B.len hW (ae (pv 0) ai)) (bx iU rfl B.len hW (ae (pv 3) ai)) (cP _)) (Ce (ki (sL hu) (aR GO gE rfl mO kO bO .nil aV (ae (pv 0) (ae (pv 2) ai))) (pv 3) (cP _))))))),?_⟩
  refine⟨_,rfl,_,rfl,r8 R.fa R.all (R.key.mpr hk) fun fo H1 S1 h1=>?_⟩
  rw[R.line hk]at h1
  have R1:=R.same S1
  refine⟨_,rfl,d,kvs,rfl,R1.hd,fun l hl=>?_⟩
  have el:(kvs.map fun kv=>kV kv.1)=ks.map V.str:=by
   rw[show(kvs.map fun kv=>kV kv.1)=(kvs.map (·.1)).map kV by rw[nO];rfl,R.hk,nO];rfl
  rw[el]
  have Sl:=aF (o:= .lst (ks.map V.str)) hl
  have S2:=S1.trans Sl
  have e2:upd H1 l (.lst (ks.map V.str)) l=some (.lst (ks.map V.str)):=ag
  have h2:=Sl _ _ h1
  generalize upd H1 l (.lst (ks.map V.str))=H2 at S2 e2 h2 ⊢
  refine⟨l,_,rfl,aj.of e2,XH (xs:=ks.map V.str) (fun i σ H3=>∃ (t3:Addr) (g:aK) (v4:Option V),σ = [some (.ref t3),some (.ref d),some (.str k),some (.ref fo),v4]/\ak H2 H3/\FA H3 t3 g/\jA ks L aa g k i) ⟨t,aa,none,rfl,ak.refl _,(R.same S2).fa,R.st,fun p=>?_⟩ (fun i σ H3 ⟨_,_,_,_,z,_⟩=>aj.of (z _ _ e2)) ?_ ?_⟩
  ·rw[Nat.sub_zero,d5]
   exact⟨fun h=>⟨h,.inl (R.mem.mp h).1⟩,fun h=>h.1⟩
  ·rintro i x σ H3 hi hx ⟨t3,g,v4,rfl,S3,f3,b3⟩
   rw[aE]at hi hx
   rw[f6]at hx
   obtain⟨y,hy,rfl⟩:=iS.mp hx
   have R3:=R.same (S2.trans S3)
   refine⟨_,rfl,_,rfl,_,rfl,MP R3.hd R3.pl R.fm R.k8 hk fun l4 F4 H4 oZ S4 h4 mem f8 fnd=>⟨l4,_,rfl,.inl (aj.of h4),rfl,jN _,_,rfl,?_⟩⟩
   rw[ke]
   refine eF (fun eP=>?_) (fun eP=>?_)
   ·have oM:y ∉ L k:=fun z=>by
     have:y∈F4:=(mem y).mpr z
     simp[this]at eP
    have nn:=b3.no R hk hy hi oM
    refine⟨_,rfl,_,rfl,NK (f3.same S4) (b3.key R hy hi) (fun ne=>absurd (BG.mpr nn) ne) fun _ r cO H5 S5 h5 F5=>?_⟩
    exact⟨r,cg g y,_,rfl,S3.trans (S4.trans S5),⟨Ct b3.st nn,cO,h5,F5⟩,b3.go R hk hy hi oM⟩
   ·have oM:y∈L k:=by
     refine Uj fun z=>eP ?_
     have:y ∉ F4:=fun y'=>z ((mem y).mp y')
     simp[this]
    exact⟨t3,g,_,rfl,S3.trans S4,f3.same S4,b3.skip hy hi oM⟩
  ·rintro σ H3 ⟨t3,g,v4,rfl,S3,f3,b3⟩
   rw[aE]at b3
   obtain⟨hlen,al,ln,hkg⟩:=b3.fin R hk
   obtain⟨_,ws3,e3,F3⟩:=id f3
   have hw:=F3.length
   refine⟨_,rfl,t3,_,rfl,.inr (aJ.of e3),_,rfl,fo,_,rfl,.inr (aJ.of (S3 _ _ h2)),rfl,?_⟩
   rw[aE,hw,hlen]
   refine⟨_,by rw[gO rfl],?_⟩
   refine⟨_,rfl,_,rfl,r8 f3 al hkg fun p4 H4 S4 h4=>?_⟩
   rw[ln]at h4
   exact⟨_,rfl,X6 h4 (S4 _ _ (S3 _ _ h2)) (R.HI hk) (q _ (S2.trans (S3.trans S4)))⟩
end
end aX
namespace aX
open PySem L2 PySem.W HT
theorem V7:bootBuiltins "max" = some (.builtin "max"):=by decide +kernel
theorem aW.keep {p:Addr}{H H':Hp}{ks:List Str}{t d:Addr}{kvs:List (Key×V)}{L Ps:Str->List Str}{aa:aK} (R:aW H ks t d kvs L Ps aa) (pk:d9 p H) (k:∀b o,H b=some o->b≠p->H' b=some o):aW H' ks t d kvs L Ps aa:=by
 have np:∀ {b:Addr}{o:HO},H b=some o->(∀xs,o ≠ .lst xs)->b≠p:=fun {b o} e h z=>by
  obtain⟨x,y,e2,_⟩:=pk
  rw[z,e2]at e;cases e;exact h _ rfl
 refine⟨let ⟨ws,a,b⟩:=R.fv;⟨ws,k _ _ a (np a fun _ z=>by cases z),b.keep fun c xs e=>k _ _ e (np e fun _ z=>by cases z)⟩,R.pm,R.fm,R.nd,R.nm,R.k8,k _ _ R.hd (np R.hd fun _ z=>by cases z),R.hk,fun x hx=>?_,R.so⟩
 obtain⟨a,e,q⟩:=R.pl x hx
 exact⟨a,e,k _ _ q (BY pk q)⟩
section
variable {P : Program} {w : World} {K : Frag} {mg : Str -> Option Value} {base : Heap} {f : Addr} {fd : FuncData}
theorem YU {a:Addr}{ns:List Int}{k:Int}{H:Hp}{Q:VK}{E:XK} (h:aj K H a (ns.map V.int)) (k0:0<=k) (k1:k<=100) (hl:ns.length<=63) (q:∀p H',H p=none->d9 p H'->ak H H'->Q (.ref p) H'):tm K [.ref a,.int k] H Q E:=by
 unfold tm
 exact⟨a,ns,k,rfl,h,k0,k1,hl,fun p x y hp x0 y0 y1=>q p _ hp ⟨x,y,ag,x0,y0,y1⟩ (aF hp)⟩
theorem W5 {p:Addr}{m:Nat}{H:Hp}{Q:VK}{E:XK} (h:d9 p H) (hm:m<=20) (q:∀ (l:Addr) (ys:List Str) (H':Hp),H l=none->ys.length=m->(∀y∈ys,Nm y)->ys.Nodup->bX p H H'->H' l=some (.lst (ys.map V.str))->Q (.ref l) H'):sF [.ref p,.int m] H Q E:=by
 unfold sF;exact⟨p,m,rfl,h,hm,q⟩
theorem W6 {H H':Hp}{a:Addr}{xs:List V} (h:aj K H a xs) (s:ak H H'):aj K H' a xs:=by
 rcases h with(h | ⟨o,h⟩)|h
 ·exact .inl (.inl (s _ _ h))
 ·exact .inl (.inr ⟨o,s _ _ h⟩)
 ·exact .inr h
@[irreducible] def qm (K:Frag):Sp:=fun vs H Q _=>∃ (a:Addr) (ns:List Int),vs = [.ref a]/\aj K H a (ns.map V.int)/\ns.length<=63 /\ ∀H',Q (.bl true) H'
abbrev OU:List Str:= ["_law_script", "_law_k", "_law_pot_here", "_law_family_here", "_law_lines", "_law_parents_here", "_law_turn", "_law_kind", "_law_number", "_law_some"]
theorem lH:bZ OU ["_law_script"] (ay kI):=⟨rfl,rfl,rfl,by decide +kernel,rfl,by decide +kernel,by decide +kernel⟩
abbrev eLw:Expr:=eW (cw (vv (cw (vv (cw (aQ kI) 0)) 2)) 1)
theorem OV:cf OU (ay kI) ["_law_one", "_law_kind", "_law_parents_here"] [none,some 7,some 5] (cR eLw):=⟨rfl,by decide +kernel,by decide +kernel,rfl,d7 (by decide +kernel),by decide +kernel⟩
theorem YV {fP fD fN fF fT fO fB fS fE:Addr}{dP dD dN dF dT dO dB dS dE:FuncData} (F:aZ K "law" "law" kI f fd) (B:eK mg) (B2:jz mg)
  (GP:aG P w K mg base aL 1 fP dP ["_law_script", "_law_k"] (tm K)) (kP:keepIn K (.ref fP)=true) (bP:Binds K dP ["_law_script", "_law_k"] []) (mP:mg "_law_pot" = some (.ref fP))
  (GD:aG P w K mg base aL 1 fD dD ["_law_pot_here", "_law_many"] lA) (kD:keepIn K (.ref fD)=true) (bD:Binds K dD ["_law_pot_here", "_law_many"] []) (mD:mg "_law_digit" = some (.ref fD))
  (GN:aG P w K mg base aL 3 fN dN ["_law_pot_here", "_law_many"] sF) (kN:keepIn K (.ref fN)=true) (bN:Binds K dN ["_law_pot_here", "_law_many"] []) (mN:mg "_law_names" = some (.ref fN))
  (GF:aG P w K mg base aL 3 fF dF ["_law_pot_here", "_law_kinds"] tw) (kF:keepIn K (.ref fF)=true) (bF:Binds K dF ["_law_pot_here", "_law_kinds"] []) (mF:mg "_law_family" = some (.ref fF))
  (GT:aG P w K mg base aL 8 fT dT ["_law_family_here", "_law_parents_here", "_law_kind", "_law_own", "_law_number"] tV) (kT:keepIn K (.ref fT)=true) (bT:Binds K dT ["_law_family_here", "_law_parents_here", "_law_kind", "_law_own", "_law_number"] []) (mT:mg "_law_there_and_back" = some (.ref fT))
  (GO:aG P w K mg base aL 8 fO dO ["_law_family_here", "_law_parents_here", "_law_kind", "_law_number"] tY) (kO:keepIn K (.ref fO)=true) (bO:Binds K dO ["_law_family_here", "_law_parents_here", "_law_kind", "_law_number"] []) (mO:mg "_law_out_and_in" = some (.ref fO))
  (GB:aG P w K mg base aL 7 fB dB ["_law_family_here", "_law_parents_here", "_law_kind"] t4) (kB:keepIn K (.ref fB)=true) (bB:Binds K dB ["_law_family_here", "_law_parents_here", "_law_kind"] []) (mB:mg "_law_bare" = some (.ref fB))
  (GS:aG P w K mg base aL 2 fS dS ["_law_left", "_law_pot_here"] tT) (kS:keepIn K (.ref fS)=true) (bS:Binds K dS ["_law_left", "_law_pot_here"] []) (mS:mg "_law_some_of" = some (.ref fS))
  (GE:aG P w K mg base aL 1 fE dE ["_law_parents_here", "_law_kind"] mI) (kE:keepIn K (.ref fE)=true) (bE:Binds K dE ["_law_parents_here", "_law_kind"] []) (mE:mg "_law_forebears" = some (.ref fE)) :
  aG P w K mg base aL 9 f fd ["_law_script"] (qm K):=by
 refine F.ok lH (fun vs H Q E h=>?_) (fun cdv A outer s H vs Q E hr h=>?_)
 ·unfold qm at h;obtain⟨a,ns,rfl,_⟩:=h;rfl
 ·unfold qm at h
  obtain⟨a,sc,rfl,hS,oS,q⟩:=h
  have uI:aT 8 _:=hr
  have lj:aT 7 _:=uI.mono (by decide)
  have jL:aT 3 _:=uI.mono (by decide)
  have jI:aT 2 _:=uI.mono (by decide)
  have cC:aT 1 _:=uI.mono (by decide)
  refine⟨_,aC (jr jM rfl (nT rfl B.range (ae (bx (K6 rfl) rfl B.max V7 (ae aP (ae (bx (Br rfl) rfl B.min boot_min (ae aP (ae (bx iU rfl B.len hW (ae (pv 0) ai)) ai))) ai))) ai)) (a8 (i:=1) lH.nd rfl (Or.inl rfl))
    (aC (a9 (i:=2) lH.nd rfl (Or.inl rfl) (aR GP cC rfl mP kP bP .nil aV (ae (pv 0) (ae (pv 1) ai))))
    (aC (vy (aR GF jL rfl mF kF bF .nil aV (ae (pv 2) (ae (aR GN jL rfl mN kN bN .nil aV (ae (pv 2) (ae (cH p9 aP (aR GD cC rfl mD kD bD .nil aV (ae (pv 2) (ae aP ai)))) ai))) ai)))
      (sI rfl (gQ (a8 (i:=3) lH.nd rfl (Or.inl rfl)) (gQ (a8 (i:=4) lH.nd rfl (Or.inl rfl)) (gQ (a8 (i:=5) lH.nd rfl (Or.inr rfl)) nY)))))
    (aC (jr jM rfl (nT rfl B.range (ae aP ai)) (a8 (i:=6) lH.nd rfl (Or.inl rfl))
     (aC (vy (mw (ae (cz gH (bx (yk rfl) rfl B2.sorted boot_sorted (ae (pv 5) ai)) (aR GD cC rfl mD kD bD .nil aV (ae (pv 2) (ae (bx Lv rfl B.len hW (ae (pv 5) ai)) ai))) (fun _ _=>rfl)) (ae (aR GD cC rfl mD kD bD .nil aV (ae (pv 2) (ae aP ai))) ai)))
       (sI rfl (gQ (a8 (i:=7) lH.nd rfl (Or.inr rfl)) (gQ (a8 (i:=8) lH.nd rfl (Or.inl rfl)) nY))))
     (aC (rS (i:=9) rfl OV lH.nd rfl rfl (gG (bx (yk rfl) rfl B2.sorted boot_sorted (ae (pv 5) ai))) (fun s H fp=>⟨a8 (i:=0) OV.nd rfl (Or.inl rfl),jl (cE (Be K rfl) (pv 1) (aR GE cC rfl mE kE bE .nil aV (ae (pv 2) (ae (pv 0) ai))) rfl),pv 0⟩))
     (aC (cN (iX (ib (aR GT uI rfl mT kT bT .nil aV (ae (pv 3) (ae (pv 5) (ae (pv 7) (ae (fb j' rfl B.tuple boot_tuple (ae (aR GS jI rfl mS kS bS .nil aV (ae (pv 9) (ae (pv 2) ai))) ai)) (ae (pv 8) ai)))))))) (aM (bo km)) cM)
     (aM (cN (iX (ib (aR GO uI rfl mO kO bO .nil aV (ae (pv 3) (ae (pv 5) (ae (pv 7) (ae (pv 8) ai))))))) (aM (bo km)) cM))))))
    (aM (cN (iX (ib (aR GB lj rfl mB kB bB .nil aV (ae (pv 3) (ae (pv 5) (ae (cz gH (bx (yk rfl) rfl B2.sorted boot_sorted (ae (pv 5) ai)) (aR GD cC rfl mD kD bD .nil aV (ae (pv 2) (ae (bx Lv rfl B.len hW (ae (pv 5) ai)) ai))) (fun _ _=>rfl)) ai)))))) (aM (bo km)) cM))))))
   (aM (bo km)),?_⟩
  have two:2<=sizeLine:=by rw[aI];decide
  refine⟨_,rfl,a,_,rfl,.inl hS,_,_,rfl,_,_,rfl,_,rfl,?_,?_,rV (fun i σ H1=>∃v1 v2 v3 v4 v5 v6 v7 v8 v9:Option V,σ = [some (.ref a),v1,v2,v3,v4,v5,v6,v7,v8,v9]/\ak H H1) ⟨none,none,none,none,none,none,none,none,none,rfl,ak.refl _⟩ (fun i0 σ H1 hi hP=>?_) (fun σ H1 _=>q _)⟩
  ·split <;> (try split) <;> omega
  ·split <;> (try split) <;> omega
  obtain⟨v1,v2,v3,v4,v5,v6,v7,v8,v9,rfl,S1⟩:=hP
  have hi6:i0 < 6:=by
   refine fZ hi ?_
   split <;> (try split) <;> omega
  refine⟨_,rfl,_,rfl,YU (W6 hS S1) (by omega) (by omega) oS fun p H2 hp pk S2=>?_⟩
  refine⟨_,rfl,_,rfl,_,rfl,kh (p:=p) (m:=8) pk (by decide) (by decide) fun dg H7 d0 d1' p7=>?_⟩
  obtain⟨dn,rfl⟩:=A0 d0
  refine⟨1,(dn:Int),rfl,rfl,?_⟩
  refine W5 (m:=1+dn) p7.ok (by omega) fun kl ks H8 hkl hkn Ao knd p8 h8=>?_
  refine YH p8.ok h8 knd Ao (by omega) fun r t d1 d ws kvs L Ps aa H9 R9=>?_
  refine⟨r,_,rfl,aJ.of R9.hr,rfl,_,_,rfl,_,_,rfl,_,_,rfl,rfl,?_⟩
  have RA:aW H9 ks t d kvs L Ps aa:=⟨⟨ws,R9.ht,R9.fv⟩,R9.pm,R9.fm,knd,Ao,by omega,R9.hd,R9.hk,R9.pl,R9.so⟩
  have P9:=p7.trans (p8.trans R9.pa)
  have uJ:=R9.pa.ok
  have kl:kvs.length=ks.length:=by have:=eT List.length R9.hk;simpa using this
  have alY:0 < ks.length:=by omega
  have k8:=RA.k8
  have Ro:∀b o,H1 b=some o->b≠p/\H9 b=some o:=fun b o z=>⟨ao z hp,P9.kp b o (S2 _ _ z) (ao z hp)⟩
  clear R9
  have pick:∀ {J:Hp}{Q':VK},d9 p J->(∀b o,H9 b=some o->b≠p->J b=some o) -> ∀ {D:Addr}{ss:List Str},J D=none->ss.Perm ks->(∀ (x:Int) (k:Str) J2,k∈ks->ee (ss.map V.str) x=some (.str k)->d9 p J2->(∀b o,H9 b=some o->b≠p->J2 b=some o)->J2 D=some (.lst (ss.map V.str))->Q' (.int x) J2)->lA [.ref p,.int kvs.length] (upd J D (.lst (ss.map V.str))) Q' (fun _ _ _=>False):=fun {J Q'} uK pD {D ss} hD hs k=>by
   have lZ:p≠D:=uK.ne hD
   refine kh (p:=p) ((bX.refl uK).new hD).ok (by omega) (by omega) fun x J2 x0 x1 g=>?_
   obtain⟨xn,rfl⟩:=A0 x0
   have hl:=hs.length_eq
   have hx:xn < ss.length:=by omega
   exact k _ ss[xn] J2 (hs.mem_iff.mp (iT hx)) (eO (by rw[f6,br hx];rfl)) g.ok (fun b o e n=>g.kp b o (by rw[ah (ao (pD b o e n) hD)];exact pD b o e n) n) (g.kp _ _ ag (aO lZ))
  refine⟨3,rfl,by decide,by decide,rV (fun j σ J=>∃v6 v7 v8 v9:Option V,σ = [some (.ref a),some (.int (0+(i0:Int))),some (.ref p),some (.ref t),some (.ref d1),some (.ref d),v6,v7,v8,v9]/\d9 p J /\ ∀b o,H9 b=some o->b≠p->J b=some o) ⟨v6,v7,v8,v9,rfl,uJ,fun _ _ e _=>e⟩ (fun j σ J hj hP=>?_) (fun σ J hP=>?_)⟩
  ·obtain⟨v6,v7,v8,v9,rfl,uK,pD⟩:=hP
   have RJ:=RA.keep uJ pD
   refine⟨_,rfl,d,kvs,ks,rfl,RJ.hd,RA.hk,by omega,fun D ss hD hs _=>?_⟩
   refine⟨_,rfl,_,rfl,d,kvs,rfl,(by rw[ah (ao RJ.hd hD)];exact RJ.hd),pick uK pD hD hs fun x k J2 hk ax Rp nH h2=>?_⟩
   refine⟨D,_,x,.str k,rfl,rfl,aj.of h2,ax,?_⟩
   refine⟨_,rfl,kh (p:=p) (m:=56) Rp (by decide) (by decide) fun y J3 y0 y1 g3=>⟨two,fun tp jK=>?_⟩⟩
   have g4:=g3.new (o:= .tup [V.str k,.int y]) jK
   refine⟨tp,_,rfl,aJ.of ag,rfl,_,_,rfl,_,_,rfl,rfl,?_⟩
   have hU:∀b o,H9 b=some o->b≠p->upd J3 tp (.tup [V.str k,.int y]) b=some o:=fun b o e n=>g4.kp b o (nH b o e n) n
   have HV:=g4.ok
   generalize upd J3 tp (.tup [V.str k,.int y])=J4 at hU HV ⊢
   have R4:=RA.keep uJ hU
   refine⟨_,rfl,d,kvs,ks,rfl,R4.hd,RA.hk,by omega,fun D2 pE hD2 xj _=>?_⟩
   have S5:=aF (o:= .lst (pE.map V.str)) hD2
   have e5:upd J4 D2 (.lst (pE.map V.str)) D2=some (.lst (pE.map V.str)):=ag
   generalize upd J4 D2 (.lst (pE.map V.str))=J5 at S5 e5 ⊢
   refine⟨D2,rfl,⟨_,aj.of e5⟩,fun b hb=>KC (R4.same S5) e5 xj hb fun J6 S6 h6=>?_⟩
   have pk6:=(sh HV (S5.trans S6)).ok
   have Rq:∀c o,H9 c=some o->c≠p->J6 c=some o/\c≠b:=fun c o e n=>⟨S6 _ _ (S5 _ _ (hU c o e n)),ao (S5 _ _ (hU c o e n)) hb⟩
   have Hg:p≠b:=(sh HV S5).ok.ne hb
   have tX:∀x∈pE.filter fun x=>!decide (k∈L x),x∈ks/\k ∉ L x:=fun x hx=>by
    obtain⟨h1,h2⟩:=hV.mp hx
    exact⟨xj.mem_iff.mp h1,by simpa using h2⟩
   have cI:(pE.filter fun x=>!decide (k∈L x)).Nodup:=Uh Ui (xj.nodup_iff.mpr knd)
   have bl:(pE.filter fun x=>!decide (k∈L x)).length<=8:=cK (gP _ _) (by rw[xj.length_eq];exact k8)
   generalize (pE.filter fun x=>!decide (k∈L x))=bs at h6 tX cI bl
   refine⟨_,rfl,_,rfl,_,rfl,_,rfl,_,rfl,ZJ pk6 Hg h6 (by omega) fun o own rest J7 Rr abo pk7 kp7 h7=>?_⟩
   have OW:∀c u,H9 c=some u->c≠p->J7 c=some u:=fun c u e n=>kp7 c u (Rq c u e n).1 n (Rq c u e n).2
   refine⟨o,_,rfl,.inl ⟨aj.of h7,fun tp2 abp=>?_⟩⟩
   have S8:=aF (o:= .tup (own.map V.str)) abp
   have R8:=(RA.keep uJ OW).same S8
   have jd:own.Nodup:=(lr.mp (Rr.nodup_iff.mpr cI)).1
   refine⟨_,rfl,ZP R8 hk ag jd abo (fun z hz=>tX z (Rr.mem_iff.mp (jf _ hz))) y0 fun J9 Rt=>⟨true,rfl,?_⟩⟩
   have S9:=S8.trans Rt
   refine⟨_,rfl,_,rfl,_,rfl,_,rfl,ZS (R8.same Rt) hk y0 fun J10 Au=>⟨true,rfl,?_⟩⟩
   have Au:=S9.trans Au
   exact⟨_,_,_,_,rfl,(sh pk7 Au).ok,fun c u e n=>Au _ _ (OW c u e n)⟩
  ·obtain⟨v6,v7,v8,v9,rfl,uK,pD⟩:=hP
   have RJ:=RA.keep uJ pD
   refine⟨_,rfl,_,rfl,_,rfl,d,kvs,ks,rfl,RJ.hd,RA.hk,by omega,fun D ss hD hs _=>?_⟩
   refine⟨_,rfl,_,rfl,d,kvs,rfl,(by rw[ah (ao RJ.hd hD)];exact RJ.hd),pick uK pD hD hs fun x k J2 hk ax Rp nH h2=>?_⟩
   refine⟨D,_,x,.str k,rfl,rfl,aj.of h2,ax,?_⟩
   refine ZU (RA.keep uJ nH) hk fun J3 S3=>⟨true,rfl,?_⟩
   exact⟨_,_,_,_,_,_,_,_,_,rfl,fun b o z=>S3 _ _ (nH b o (Ro b o (S1 _ _ z)).2 (Ro b o (S1 _ _ z)).1)⟩
end
end aX
namespace aX
open PySem L2 PySem.W
def abq (K:Frag) (LE:Addr):Bool:=readsIn K LE (.type "type") && (specialIn K (.ref LE) "__getattribute__" == some (some (.builtin "type.__getattribute__")))
def nsOk (K:Frag) (C:Addr):Bool:=findIn K (.ref C) "kind" == some none && (findIn K (.ref C) "ring" == some none && (keepIn K (.ref C) && mroIn K C (.ref C)==some true))
def rC (l:List Addr) (i:Nat):Addr:=l.getD i 0
def ZW (K:Frag) (l:List Addr):Bool:=([4,12]:List Nat).all fun i=>(List.range 16).all (fun j=>kitOne K (.ref (rC l i)) (.ref (rC l j))==some (decide (i=j))) && (kitOne K (.ref (rC l i)) (.type "ValueError")==some true)
def ZX (K:Frag) (U LE C:Addr):Bool:=dI K U none && (keepIn K (.ref U) && (mroIn K U (.ref LE)==some true && (mroIn K C (.ref LE)==some true && dI K LE none)))
theorem all_mk {l:OpenLaw}{w:World}{K:Frag}{h:Heap}{mg:Str->Option Value}{fa LE g0 g1 g2 g3 g4 g5 g6 g7 g8 g9 uL uM C uN uO uP fI fM HW HX HY HZ Ia Ib Ic Ie Ig Ih Ii Ij Ik Il Im Io Ip Iq Ir Iu fP fD fN Iv Iw Iy Iz IA IB IC ID IE IF fL:Addr} (X:K.In h) (G:h.Ns mainGlobals mg) (eZ:mg "law" = some (.ref fa))
  {odI Ru:Option Addr}{slI:Array (Option Value)}{ocI Rv Rw Rx IG Ry:Value}
  {odM anM:Option Addr}{slM:Array (Option Value)}{ocM kVM dcM pmM Rz ctM:Value}
  {abr abt:Option Addr}{abu:Array (Option Value)}{abv abw abx aby OX abz:Value}
  {abA abB:Option Addr}{abC:Array (Option Value)}{abD abE abF abG OY abH:Value}
  {abI abJ:Option Addr}{abK:Array (Option Value)}{abL abM abN abO OZ abP:Value}
  {abQ abR:Option Addr}{abS:Array (Option Value)}{abT abU abV abW O0 abX:Value}
  {abY abZ:Option Addr}{ab0:Array (Option Value)}{ab1 ab2 ab3 ab4 O1 ab5:Value}
  {ab6 ab7:Option Addr}{ab8:Array (Option Value)}{ab9 aca acb acd O2 ace:Value}
  {acf acg:Option Addr}{ach:Array (Option Value)}{aci acj ack acm O3 acn:Value}
  {aco acp:Option Addr}{acq:Array (Option Value)}{acr acs acu acv O4 acw:Value}
  {acx acy:Option Addr}{acz:Array (Option Value)}{acA acB acC acD O5 acE:Value}
  {acF acG:Option Addr}{acH:Array (Option Value)}{acI acJ acK acL O6 acM:Value}
  {acN acO:Option Addr}{acP:Array (Option Value)}{acQ acR acS acT O7 acU:Value}
  {acV acW:Option Addr}{acX:Array (Option Value)}{acY acZ ac0 ac1 O8 ac2:Value}
  {ac3 ac4:Option Addr}{ac5:Array (Option Value)}{ac6 ac7 ac8 ac9 O9 ada:Value}
  {adb ade:Option Addr}{adf:Array (Option Value)}{adg adh adi adj O' adk:Value}
  {adl adm:Option Addr}{adn:Array (Option Value)}{ado adp adq ads Pa adt:Value}
  {adu adv:Option Addr}{adw:Array (Option Value)}{adx ady adz adA Pb adB:Value}
  {adC adD:Option Addr}{adE:Array (Option Value)}{adF adG adH adI Pd adJ:Value}
  {adK adL:Option Addr}{adM:Array (Option Value)}{adN adO adP adQ Pe adR:Value}
  {adS adT:Option Addr}{adU:Array (Option Value)}{adV adW adX adY Pf adZ:Value}
  {ad0 ad1:Option Addr}{ad2:Array (Option Value)}{ad3 ad4 ad5 ad6 Pg ad7:Value}
  {odP anP:Option Addr}{slP:Array (Option Value)}{ocP kVP dcP pmP RB ctP:Value}
  {odD anD:Option Addr}{slD:Array (Option Value)}{ocD kVD dcD pmD RC ctD:Value}
  {odN anN:Option Addr}{slN:Array (Option Value)}{ocN kVN dcN pmN RE ctN:Value}
  {ad8 ad9:Option Addr}{aea:Array (Option Value)}{aeb aec aed aee Ph aef:Value}
  {aeg aeh:Option Addr}{aei:Array (Option Value)}{aej aek ael aem Pj aen:Value}
  {aeo aep:Option Addr}{aeq:Array (Option Value)}{aer aes aet aeu Pk aev:Value}
  {aew aex:Option Addr}{aey:Array (Option Value)}{aez aeA aeB aeC Pn aeD:Value}
  {aeE aeF:Option Addr}{aeG:Array (Option Value)}{aeH aeI aeJ aeK Po aeL:Value}
  {aeM aeN:Option Addr}{aeO:Array (Option Value)}{aeP aeQ aeR aeS Pp aeT:Value}
  {aeU aeV:Option Addr}{aeW:Array (Option Value)}{aeX aeY aeZ ae0 Pq ae1:Value}
  {ae2 ae3:Option Addr}{ae4:Array (Option Value)}{ae5 ae6 ae7 ae8 Pr ae9:Value}
  {afa afb:Option Addr}{afc:Array (Option Value)}{afd afe aff afg Pt afh:Value}
  {afi afj:Option Addr}{afk:Array (Option Value)}{afl afm afn afo Pu afp:Value}
  {odL RF:Option Addr}{slL:Array (Option Value)}{ocL RG RH RI IH RK:Value}
  {tkM:Tok}
  (II:nsIn K mainGlobals "NoName" = some (some (.ref g0)))
  (IJ:nsIn K mainGlobals "NoKind" = some (some (.ref g1)))
  (IK:nsIn K mainGlobals "NoParents" = some (some (.ref g2)))
  (IL:nsIn K mainGlobals "Taken" = some (some (.ref g3)))
  (Av:nsIn K mainGlobals "InUse" = some (some (.ref g4)))
  (IM:nsIn K mainGlobals "NoEntry" = some (some (.ref g5)))
  (IP:nsIn K mainGlobals "NoThing" = some (some (.ref g6)))
  (IQ:nsIn K mainGlobals "NoNumber" = some (some (.ref g7)))
  (IS:nsIn K mainGlobals "NotAbove" = some (some (.ref g8)))
  (IT:nsIn K mainGlobals "Shut" = some (some (.ref g9)))
  (DJ:nsIn K mainGlobals "NoText" = some (some (.ref uL)))
  (DK:nsIn K mainGlobals "NoRow" = some (some (.ref uM)))
  (zd:nsIn K mainGlobals "Ring" = some (some (.ref C)))
  (DL:nsIn K mainGlobals "Round" = some (some (.ref uN)))
  (DM:nsIn K mainGlobals "Missing" = some (some (.ref uO)))
  (DN:nsIn K mainGlobals "Endless" = some (some (.ref uP)))
  (xT:nsIn K mainGlobals "LineError" = some (some (.ref LE)))
  (RL:findIn K (.ref C) "__init__" = some (some (.ref fI)))
  (IU:isFn K (.ref fI)=true)
  (IV:dI K C (some (.ref fI))=true)
  (IW:K.lookup fI=some ⟨ocI,odI,.func (fnOf "__init__" "Ring.__init__" (b4 ko) (aQ ko) (ay ko) .none Rv Rw Rx Ru IG Ry),slI⟩)
  (IX:codeIn K IG "Ring.__init__" = true)
  (IY:keepIn K (.ref fI)=true)
  (IZ:nsIn K mainGlobals "merged" = some (some (.ref fM)))
  (I0:K.lookup fM=some ⟨ocM,odM,.func (fnOf "merged" "merged" (b4 n5) (aQ n5) (ay n5) .none kVM dcM pmM anM Rz ctM),slM⟩)
  (Ja:codeIn K Rz "merged" = true)
  (Aw:keepIn K (.ref fM)=true)
  (DO:nsIn K mainGlobals "least_free" = some (some (.ref HW)))
  (DP:K.lookup HW=some ⟨abv,abr,.func (fnOf "least_free" "least_free" (b4 qf) (aQ qf) (ay qf) .none abw abx aby abt OX abz),abu⟩)
  (DQ:codeIn K OX "least_free" = true)
  (DR:keepIn K (.ref HW)=true)
  (DS:nsIn K mainGlobals "wish_against" = some (some (.ref HX)))
  (DT:K.lookup HX=some ⟨abD,abA,.func (fnOf "wish_against" "wish_against" (b4 mX) (aQ mX) (ay mX) .none abE abF abG abB OY abH),abC⟩)
  (DU:codeIn K OY "wish_against" = true)
  (DV:keepIn K (.ref HX)=true)
  (DW:nsIn K mainGlobals "ring_within" = some (some (.ref HY)))
  (DX:K.lookup HY=some ⟨abL,abI,.func (fnOf "ring_within" "ring_within" (b4 my) (aQ my) (ay my) .none abM abN abO abJ OZ abP),abK⟩)
  (DY:codeIn K OZ "ring_within" = true)
  (DZ:keepIn K (.ref HY)=true)
  (D0:nsIn K mainGlobals "is_name" = some (some (.ref HZ)))
  (D1:K.lookup HZ=some ⟨abT,abQ,.func (fnOf "is_name" "is_name" (b4 n4) (aQ n4) (ay n4) .none abU abV abW abR O0 abX),abS⟩)
  (D3:codeIn K O0 "is_name" = true)
  (t5:keepIn K (.ref HZ)=true)
  (D4:nsIn K mainGlobals "check_name" = some (some (.ref Ia)))
  (D5:K.lookup Ia=some ⟨ab1,abY,.func (fnOf "check_name" "check_name" (b4 sk) (aQ sk) (ay sk) .none ab2 ab3 ab4 abZ O1 ab5),ab0⟩)
  (D6:codeIn K O1 "check_name" = true)
  (ze:keepIn K (.ref Ia)=true)
  (D7:nsIn K mainGlobals "is_row" = some (some (.ref Ib)))
  (D8:K.lookup Ib=some ⟨ab9,ab6,.func (fnOf "is_row" "is_row" (b4 oh) (aQ oh) (ay oh) .none aca acb acd ab7 O2 ace),ab8⟩)
  (D9:codeIn K O2 "is_row" = true)
  (zf:keepIn K (.ref Ib)=true)
  (D':nsIn K mainGlobals "is_kind" = some (some (.ref Ic)))
  (Ea:K.lookup Ic=some ⟨aci,acf,.func (fnOf "is_kind" "is_kind" (b4 sq) (aQ sq) (ay sq) .none acj ack acm acg O3 acn),ach⟩)
  (Eb:codeIn K O3 "is_kind" = true)
  (t6:keepIn K (.ref Ic)=true)
  (Ec:nsIn K mainGlobals "are_parents" = some (some (.ref Ie)))
  (Ed:K.lookup Ie=some ⟨acr,aco,.func (fnOf "are_parents" "are_parents" (b4 oE) (aQ oE) (ay oE) .none acs acu acv acp O4 acw),acq⟩)
  (Ee:codeIn K O4 "are_parents" = true)
  (zg:keepIn K (.ref Ie)=true)
  (Ef:nsIn K mainGlobals "check_kind" = some (some (.ref Ig)))
  (Eg:K.lookup Ig=some ⟨acA,acx,.func (fnOf "check_kind" "check_kind" (b4 sr) (aQ sr) (ay sr) .none acB acC acD acy O5 acE),acz⟩)
  (Eh:codeIn K O5 "check_kind" = true)
  (oN:keepIn K (.ref Ig)=true)
  (Ei:nsIn K mainGlobals "lines_of" = some (some (.ref Ih)))
  (Ej:K.lookup Ih=some ⟨acI,acF,.func (fnOf "lines_of" "lines_of" (b4 mz) (aQ mz) (ay mz) .none acJ acK acL acG O6 acM),acH⟩)
  (Ek:codeIn K O6 "lines_of" = true)
  (t8:keepIn K (.ref Ih)=true)
  (El:nsIn K mainGlobals "line_from" = some (some (.ref Ii)))
  (Em:K.lookup Ii=some ⟨acQ,acN,.func (fnOf "line_from" "line_from" (b4 nU) (aQ nU) (ay nU) .none acR acS acT acO O7 acU),acP⟩)
  (En:codeIn K O7 "line_from" = true)
  (zh:keepIn K (.ref Ii)=true)
  (Eo:nsIn K mainGlobals "line_of" = some (some (.ref Ij)))
  (Ep:K.lookup Ij=some ⟨acY,acV,.func (fnOf "line_of" "line_of" (b4 su) (aQ su) (ay su) .none acZ ac0 ac1 acW O8 ac2),acX⟩)
  (Er:codeIn K O8 "line_of" = true)
  (t9:keepIn K (.ref Ij)=true)
  (Es:nsIn K mainGlobals "heirs_of" = some (some (.ref Ik)))
  (Et:K.lookup Ik=some ⟨ac6,ac3,.func (fnOf "heirs_of" "heirs_of" (b4 oi) (aQ oi) (ay oi) .none ac7 ac8 ac9 ac4 O9 ada),ac5⟩)
  (Eu:codeIn K O9 "heirs_of" = true)
  (zi:keepIn K (.ref Ik)=true)
  (Ew:nsIn K mainGlobals "way_of" = some (some (.ref Il)))
  (Ex:K.lookup Il=some ⟨adg,adb,.func (fnOf "way_of" "way_of" (b4 tH) (aQ tH) (ay tH) .none adh adi adj ade O' adk),adf⟩)
  (Ey:codeIn K O' "way_of" = true)
  (zj:keepIn K (.ref Il)=true)
  (Ez:nsIn K mainGlobals "kind_made" = some (some (.ref Im)))
  (EA:K.lookup Im=some ⟨ado,adl,.func (fnOf "kind_made" "kind_made" (b4 sV) (aQ sV) (ay sV) .none adp adq ads adm Pa adt),adn⟩)
  (EB:codeIn K Pa "kind_made" = true)
  (zk:keepIn K (.ref Im)=true)
  (EC:nsIn K mainGlobals "kind_changed" = some (some (.ref Io)))
  (ED:K.lookup Io=some ⟨adx,adu,.func (fnOf "kind_changed" "kind_changed" (b4 sf) (aQ sf) (ay sf) .none ady adz adA adv Pb adB),adw⟩)
  (EF:codeIn K Pb "kind_changed" = true)
  (zl:keepIn K (.ref Io)=true)
  (EG:nsIn K mainGlobals "kind_let_go" = some (some (.ref Ip)))
  (EH:K.lookup Ip=some ⟨adF,adC,.func (fnOf "kind_let_go" "kind_let_go" (b4 sN) (aQ sN) (ay sN) .none adG adH adI adD Pd adJ),adE⟩)
  (EI:codeIn K Pd "kind_let_go" = true)
  (wB:keepIn K (.ref Ip)=true)
  (EJ:nsIn K mainGlobals "check_parents" = some (some (.ref Iq)))
  (EK:K.lookup Iq=some ⟨adN,adK,.func (fnOf "check_parents" "check_parents" (b4 sv) (aQ sv) (ay sv) .none adO adP adQ adL Pe adR),adM⟩)
  (EL:codeIn K Pe "check_parents" = true)
  (wC:keepIn K (.ref Iq)=true)
  (EM:nsIn K mainGlobals "with_parents" = some (some (.ref Ir)))
  (EN:K.lookup Ir=some ⟨adV,adS,.func (fnOf "with_parents" "with_parents" (b4 sX) (aQ sX) (ay sX) .none adW adX adY adT Pf adZ),adU⟩)
  (EO:codeIn K Pf "with_parents" = true)
  (wD:keepIn K (.ref Ir)=true)
  (ER:nsIn K mainGlobals "without_kind" = some (some (.ref Iu)))
  (ES:K.lookup Iu=some ⟨ad3,ad0,.func (fnOf "without_kind" "without_kind" (b4 nV) (aQ nV) (ay nV) .none ad4 ad5 ad6 ad1 Pg ad7),ad2⟩)
  (ET:codeIn K Pg "without_kind" = true)
  (wF:keepIn K (.ref Iu)=true)
  (Jb:nsIn K mainGlobals "_law_pot" = some (some (.ref fP)))
  (Jc:K.lookup fP=some ⟨ocP,odP,.func (fnOf "_law_pot" "_law_pot" (b4 tJ) (aQ tJ) (ay tJ) .none kVP dcP pmP anP RB ctP),slP⟩)
  (Jd:codeIn K RB "_law_pot" = true)
  (Ax:keepIn K (.ref fP)=true)
  (Je:nsIn K mainGlobals "_law_digit" = some (some (.ref fD)))
  (Jf:K.lookup fD=some ⟨ocD,odD,.func (fnOf "_law_digit" "_law_digit" (b4 oj) (aQ oj) (ay oj) .none kVD dcD pmD anD RC ctD),slD⟩)
  (Jg:codeIn K RC "_law_digit" = true)
  (xU:keepIn K (.ref fD)=true)
  (Jh:nsIn K mainGlobals "_law_names" = some (some (.ref fN)))
  (Ji:K.lookup fN=some ⟨ocN,odN,.func (fnOf "_law_names" "_law_names" (b4 jU) (aQ jU) (ay jU) .none kVN dcN pmN anN RE ctN),slN⟩)
  (Jj:codeIn K RE "_law_names" = true)
  (Ay:keepIn K (.ref fN)=true)
  (EU:nsIn K mainGlobals "_law_merged" = some (some (.ref Iv)))
  (EV:K.lookup Iv=some ⟨aeb,ad8,.func (fnOf "_law_merged" "_law_merged" (b4 jn) (aQ jn) (ay jn) .none aec aed aee ad9 Ph aef),aea⟩)
  (EW:codeIn K Ph "_law_merged" = true)
  (EX:keepIn K (.ref Iv)=true)
  (EY:nsIn K mainGlobals "_law_line" = some (some (.ref Iw)))
  (EZ:K.lookup Iw=some ⟨aej,aeg,.func (fnOf "_law_line" "_law_line" (b4 om) (aQ om) (ay om) .none aek ael aem aeh Pj aen),aei⟩)
  (E1:codeIn K Pj "_law_line" = true)
  (zm:keepIn K (.ref Iw)=true)
  (E3:nsIn K mainGlobals "_law_parents" = some (some (.ref Iy)))
  (E4:K.lookup Iy=some ⟨aer,aeo,.func (fnOf "_law_parents" "_law_parents" (b4 rX) (aQ rX) (ay rX) .none aes aet aeu aep Pk aev),aeq⟩)
  (E5:codeIn K Pk "_law_parents" = true)
  (zo:keepIn K (.ref Iy)=true)
  (E6:nsIn K mainGlobals "_law_family" = some (some (.ref Iz)))
  (E7:K.lookup Iz=some ⟨aez,aew,.func (fnOf "_law_family" "_law_family" (b4 nW) (aQ nW) (ay nW) .none aeA aeB aeC aex Pn aeD),aey⟩)
  (E8:codeIn K Pn "_law_family" = true)
  (zp:keepIn K (.ref Iz)=true)
  (E9:nsIn K mainGlobals "_law_forebears" = some (some (.ref IA)))
  (Fb:K.lookup IA=some ⟨aeH,aeE,.func (fnOf "_law_forebears" "_law_forebears" (b4 sY) (aQ sY) (ay sY) .none aeI aeJ aeK aeF Po aeL),aeG⟩)
  (Fc:codeIn K Po "_law_forebears" = true)
  (ua:keepIn K (.ref IA)=true)
  (Fd:nsIn K mainGlobals "_law_classes" = some (some (.ref IB)))
  (Fe:K.lookup IB=some ⟨aeP,aeM,.func (fnOf "_law_classes" "_law_classes" (b4 jQ) (aQ jQ) (ay jQ) .none aeQ aeR aeS aeN Pp aeT),aeO⟩)
  (Ff:codeIn K Pp "_law_classes" = true)
  (wG:keepIn K (.ref IB)=true)
  (Fg:nsIn K mainGlobals "_law_some_of" = some (some (.ref IC)))
  (Fh:K.lookup IC=some ⟨aeX,aeU,.func (fnOf "_law_some_of" "_law_some_of" (b4 sC) (aQ sC) (ay sC) .none aeY aeZ ae0 aeV Pq ae1),aeW⟩)
  (Fi:codeIn K Pq "_law_some_of" = true)
  (zq:keepIn K (.ref IC)=true)
  (Fj:nsIn K mainGlobals "_law_there_and_back" = some (some (.ref ID)))
  (Fl:K.lookup ID=some ⟨ae5,ae2,.func (fnOf "_law_there_and_back" "_law_there_and_back" (b4 oq) (aQ oq) (ay oq) .none ae6 ae7 ae8 ae3 Pr ae9),ae4⟩)
  (Fn:codeIn K Pr "_law_there_and_back" = true)
  (zt:keepIn K (.ref ID)=true)
  (Fo:nsIn K mainGlobals "_law_out_and_in" = some (some (.ref IE)))
  (Fp:K.lookup IE=some ⟨afd,afa,.func (fnOf "_law_out_and_in" "_law_out_and_in" (b4 lL) (aQ lL) (ay lL) .none afe aff afg afb Pt afh),afc⟩)
  (Fq:codeIn K Pt "_law_out_and_in" = true)
  (zu:keepIn K (.ref IE)=true)
  (Ft:nsIn K mainGlobals "_law_bare" = some (some (.ref IF)))
  (Fu:K.lookup IF=some ⟨afl,afi,.func (fnOf "_law_bare" "_law_bare" (b4 sZ) (aQ sZ) (ay sZ) .none afm afn afo afj Pu afp),afk⟩)
  (Fv:codeIn K Pu "_law_bare" = true)
  (zv:keepIn K (.ref IF)=true)
  (Jk:nsIn K mainGlobals "law" = some (some (.ref fL)))
  (Jl:K.lookup fL=some ⟨ocL,odL,.func (fnOf "law" "law" (b4 kI) (aQ kI) (ay kI) .none RG RH RI RF IH RK),slL⟩)
  (Jm:codeIn K IH "law" = true)
  (Jn:keepIn K (.ref fL)=true)
  (Jo:yR K C=true)
  (Jp:yR K g4=true)
  (gM:ZW K [g0,g1,g2,g3,g4,g5,g6,g7,g8,g9,uL,uM,C,uN,uO,uP]=true)
  (Jq:ZX K g4 LE C=true)
  (oS:nsOk K C=true)
  (Az:abq K LE=true)
  (CT:nsIn K mainGlobals "MOST_PARENTS" = some (some (.int 4 tkM)))
  (Jr:findCls K (.ref LE) (.type "type") "__init__" = some (.val (.builtin "ValueError.__init__")))
  (Fw:nsIn K mainGlobals "len" = some none)
  (Fx:nsIn K mainGlobals "max" = some none)
  (Fy:nsIn K mainGlobals "min" = some none)
  (Fz:nsIn K mainGlobals "abs" = some none)
  (Cu:nsIn K mainGlobals "range" = some none)
  (FC:nsIn K mainGlobals "any" = some none)
  (FE:nsIn K mainGlobals "all" = some none)
  (CU:nsIn K mainGlobals "list" = some none)
  (Cv:nsIn K mainGlobals "tuple" = some none)
  (Bq:nsIn K mainGlobals "enumerate" = some none)
  (Ba:nsIn K mainGlobals "isinstance" = some none)
  (FF:nsIn K mainGlobals "str" = some none)
  (CV:nsIn K mainGlobals "dict" = some none)
  (Cd:nsIn K mainGlobals "sorted" = some none)
  (FG:nsIn K mainGlobals "set" = some none)
  (FH:nsIn K mainGlobals "zip" = some none)
  (BI:nsIn K mainGlobals "reversed" = some none)
  (Bb:nsIn K mainGlobals "ValueError" = some none) :
  ∃fd:FuncData,(∀ (s:Shared) (v:Value),BindsTo s fd ⟨[v],[]⟩ [("_law_script", v)]) /\ ∀base:Heap,K.In base->base.Ns mainGlobals mg->aG l.prog w K mg base aL 9 fa fd ["_law_script"] (qm K):=by
 have e:=eZ.symm.trans (a6 X G Jk)
 cases e
 have Bl:eK mg:=⟨hZ X G Fw,hZ X G Fx,hZ X G Fy,hZ X G Fz,hZ X G Cu,hZ X G FC,hZ X G FE,hZ X G CU,hZ X G Cv,hZ X G Bq⟩
 have n1:=iz.mp oS
 have n2:=iz.mp n1.2
 have n3:=iz.mp n2.2
 have bs:vB K LE:=⟨(iz.mp Az).1,cS.mp (iz.mp Az).2,Jr⟩
 have FI:=ck (st:=ko) IW IX IY
 have FM:=ck (st:=n5) I0 Ja Aw
 have RM:=ck (st:=qf) DP DQ DR
 have RN:=ck (st:=mX) DT DU DV
 have RO:=ck (st:=my) DX DY DZ
 have RP:=ck (st:=n4) D1 D3 t5
 have RQ:=ck (st:=sk) D5 D6 ze
 have RS:=ck (st:=oh) D8 D9 zf
 have RT:=ck (st:=sq) Ea Eb t6
 have RU:=ck (st:=oE) Ed Ee zg
 have RV:=ck (st:=sr) Eg Eh oN
 have RW:=ck (st:=mz) Ej Ek t8
 have RX:=ck (st:=nU) Em En zh
 have RY:=ck (st:=su) Ep Er t9
 have RZ:=ck (st:=oi) Et Eu zi
 have R5:=ck (st:=tH) Ex Ey zj
 have R6:=ck (st:=sV) EA EB zk
 have R7:=ck (st:=sf) ED EF zl
 have R':=ck (st:=sN) EH EI wB
 have Sa:=ck (st:=sv) EK EL wC
 have Se:=ck (st:=sX) EN EO wD
 have Sg:=ck (st:=nV) ES ET wF
 have FP:=ck (st:=tJ) Jc Jd Ax
 have FD:=ck (st:=oj) Jf Jg xU
 have FN:=ck (st:=jU) Ji Jj Ay
 have Sh:=ck (st:=jn) EV EW EX
 have Si:=ck (st:=om) EZ E1 zm
 have Sj:=ck (st:=rX) E4 E5 zo
 have Sk:=ck (st:=nW) E7 E8 zp
 have Sm:=ck (st:=sY) Fb Fc ua
 have Sn:=ck (st:=jQ) Fe Ff wG
 have So:=ck (st:=sC) Fh Fi zq
 have Sq:=ck (st:=oq) Fl Fn zt
 have Ss:=ck (st:=lL) Fp Fq zu
 have Sv:=ck (st:=sZ) Fu Fv zv
 have FL:=ck (st:=kI) Jl Jm Jn
 have bI:=FI.binds (ps:= ["self", "kind", "ring"]) fun _ _ _ _ _ _ us hl=>match us,hl with | [_,_,_],_=>rfl
 have bM:=FM.binds (ps:= ["rows"]) fun _ _ _ _ _ _ us hl=>match us,hl with | [_],_=>rfl
 have bLf:=RM.binds (ps:= ["rest"]) fun _ _ _ _ _ _ us hl=>match us,hl with | [_],_=>rfl
 have bWa:=RN.binds (ps:= ["rest", "name"]) fun _ _ _ _ _ _ us hl=>match us,hl with | [_,_],_=>rfl
 have bRw:=RO.binds (ps:= ["rest"]) fun _ _ _ _ _ _ us hl=>match us,hl with | [_],_=>rfl
 have Js:=RP.binds (ps:= ["thing"]) fun _ _ _ _ _ _ us hl=>match us,hl with | [_],_=>rfl
 have bCn:=RQ.binds (ps:= ["thing"]) fun _ _ _ _ _ _ us hl=>match us,hl with | [_],_=>rfl
 have bIr:=RS.binds (ps:= ["thing"]) fun _ _ _ _ _ _ us hl=>match us,hl with | [_],_=>rfl
 have Jt:=RT.binds (ps:= ["family", "thing"]) fun _ _ _ _ _ _ us hl=>match us,hl with | [_,_],_=>rfl
 have bAp:=RU.binds (ps:= ["family", "thing"]) fun _ _ _ _ _ _ us hl=>match us,hl with | [_,_],_=>rfl
 have xV:=RV.binds (ps:= ["family", "thing"]) fun _ _ _ _ _ _ us hl=>match us,hl with | [_,_],_=>rfl
 have Ju:=RW.binds (ps:= ["family"]) fun _ _ _ _ _ _ us hl=>match us,hl with | [_],_=>rfl
 have bFr:=RX.binds (ps:= ["lines", "kind", "parents"]) fun _ _ _ _ _ _ us hl=>match us,hl with | [_,_,_],_=>rfl
 have Jv:=RY.binds (ps:= ["family", "kind"]) fun _ _ _ _ _ _ us hl=>match us,hl with | [_,_],_=>rfl
 have bHe:=RZ.binds (ps:= ["family", "kind"]) fun _ _ _ _ _ _ us hl=>match us,hl with | [_,_],_=>rfl
 have bWy:=R5.binds (ps:= ["family", "a", "b"]) fun _ _ _ _ _ _ us hl=>match us,hl with | [_,_,_],_=>rfl
 have bKm:=R6.binds (ps:= ["family", "kind", "parents"]) fun _ _ _ _ _ _ us hl=>match us,hl with | [_,_,_],_=>rfl
 have bKc:=R7.binds (ps:= ["family", "kind", "parents"]) fun _ _ _ _ _ _ us hl=>match us,hl with | [_,_,_],_=>rfl
 have Sx:=R'.binds (ps:= ["family", "kind"]) fun _ _ _ _ _ _ us hl=>match us,hl with | [_,_],_=>rfl
 have SA:=Sa.binds (ps:= ["family", "thing"]) fun _ _ _ _ _ _ us hl=>match us,hl with | [_,_],_=>rfl
 have SF:=Se.binds (ps:= ["family", "kind", "parents"]) fun _ _ _ _ _ _ us hl=>match us,hl with | [_,_,_],_=>rfl
 have SG:=Sg.binds (ps:= ["family", "kind"]) fun _ _ _ _ _ _ us hl=>match us,hl with | [_,_],_=>rfl
 have bP:=FP.binds (ps:= ["_law_script", "_law_k"]) fun _ _ _ _ _ _ us hl=>match us,hl with | [_,_],_=>rfl
 have bD:=FD.binds (ps:= ["_law_pot_here", "_law_many"]) fun _ _ _ _ _ _ us hl=>match us,hl with | [_,_],_=>rfl
 have bN:=FN.binds (ps:= ["_law_pot_here", "_law_many"]) fun _ _ _ _ _ _ us hl=>match us,hl with | [_,_],_=>rfl
 have bYm:=Sh.binds (ps:= ["_law_rows"]) fun _ _ _ _ _ _ us hl=>match us,hl with | [_],_=>rfl
 have bYn:=Si.binds (ps:= ["_law_lines", "_law_kind", "_law_own"]) fun _ _ _ _ _ _ us hl=>match us,hl with | [_,_,_],_=>rfl
 have bYp:=Sj.binds (ps:= ["_law_pot_here", "_law_made"]) fun _ _ _ _ _ _ us hl=>match us,hl with | [_,_],_=>rfl
 have bYf:=Sk.binds (ps:= ["_law_pot_here", "_law_kinds"]) fun _ _ _ _ _ _ us hl=>match us,hl with | [_,_],_=>rfl
 have Jw:=Sm.binds (ps:= ["_law_parents_here", "_law_kind"]) fun _ _ _ _ _ _ us hl=>match us,hl with | [_,_],_=>rfl
 have SH:=Sn.binds (ps:= ["_law_e"]) fun _ _ _ _ _ _ us hl=>match us,hl with | [_],_=>rfl
 have bSo:=So.binds (ps:= ["_law_left", "_law_pot_here"]) fun _ _ _ _ _ _ us hl=>match us,hl with | [_,_],_=>rfl
 have bTb:=Sq.binds (ps:= ["_law_family_here", "_law_parents_here", "_law_kind", "_law_own", "_law_number"]) fun _ _ _ _ _ _ us hl=>match us,hl with | [_,_,_,_,_],_=>rfl
 have bOi:=Ss.binds (ps:= ["_law_family_here", "_law_parents_here", "_law_kind", "_law_number"]) fun _ _ _ _ _ _ us hl=>match us,hl with | [_,_,_,_],_=>rfl
 have bBa:=Sv.binds (ps:= ["_law_family_here", "_law_parents_here", "_law_kind"]) fun _ _ _ _ _ _ us hl=>match us,hl with | [_,_,_],_=>rfl
 have mM:=a6 X G IZ
 have mLf:=a6 X G DO
 have mWa:=a6 X G DS
 have mRw:=a6 X G DW
 have Jx:=a6 X G D0
 have mCn:=a6 X G D4
 have mIr:=a6 X G D7
 have Jy:=a6 X G D'
 have mAp:=a6 X G Ec
 have xW:=a6 X G Ef
 have Jz:=a6 X G Ei
 have mFr:=a6 X G El
 have JA:=a6 X G Eo
 have mHe:=a6 X G Es
 have mWy:=a6 X G Ew
 have mKm:=a6 X G Ez
 have mKc:=a6 X G EC
 have SI:=a6 X G EG
 have SK:=a6 X G EJ
 have SM:=a6 X G EM
 have SN:=a6 X G ER
 have mP:=a6 X G Jb
 have mD:=a6 X G Je
 have mN:=a6 X G Jh
 have mYm:=a6 X G EU
 have mYn:=a6 X G EY
 have mYp:=a6 X G E3
 have mYf:=a6 X G E6
 have JB:=a6 X G E9
 have SO:=a6 X G Fd
 have mSo:=a6 X G Fg
 have mTb:=a6 X G Fj
 have mOi:=a6 X G Fo
 have mBa:=a6 X G Ft
 have xc:=MI Jo
 have xu:=MI Jp
 have T:CL K mg LE C fI (fnOf "__init__" "Ring.__init__" (b4 ko) (aQ ko) (ay ko) .none Rv Rw Rx Ru IG Ry):=⟨a6 X G zd,IV,IU,n3.1,FI,bs,a6 X G xT,bI,xc,cS.mp n1.1,cS.mp n2.1⟩
 have B2:jz mg:=⟨hZ X G Ba,hZ X G FF,hZ X G CV,hZ X G Cd⟩
 have bst:=hZ X G FG
 have u1:=iz.mp Jq
 have u2:=iz.mp u1.2
 have u3:=iz.mp u2.2
 have u4:=iz.mp u3.2
 have TU:Nd K mg "InUse" g4:=⟨u1.1,u2.1,a6 X G Av,xu⟩
 have SQ:∀i,i=4\/i=12->(∀j,j < 16->kitOne K (.ref (rC [g0,g1,g2,g3,g4,g5,g6,g7,g8,g9,uL,uM,C,uN,uO,uP] i)) (.ref (rC [g0,g1,g2,g3,g4,g5,g6,g7,g8,g9,uL,uM,C,uN,uO,uP] j))=some (decide (i=j)))/\kitOne K (.ref (rC [g0,g1,g2,g3,g4,g5,g6,g7,g8,g9,uL,uM,C,uN,uO,uP] i)) (.type "ValueError")=some true:=fun i hi=>by
  have h:=pM.mp gM i (by rcases hi with rfl | rfl <;> decide)
  obtain⟨h1,h2⟩:=iz.mp h
  exact⟨fun j hj=>cS.mp (pM.mp h1 j (l8.mpr hj)),cS.mp h2⟩
 have TC:wz K mg (rC [g0,g1,g2,g3,g4,g5,g6,g7,g8,g9,uL,uM,C,uN,uO,uP]):=by
  refine⟨fun p hp=>?_,hZ X G Bb,fun i j hi hj=>(SQ i hi).1 j hj,fun i hi=>(SQ i hi).2⟩
  unfold dU at hp
  simp only[bq,rJ,rK]at hp
  rcases hp with rfl | rfl | rfl | rfl | rfl | rfl | rfl | rfl | rfl | rfl | rfl | rfl | rfl | rfl | rfl | rfl
  ·exact a6 X G II
  ·exact a6 X G IJ
  ·exact a6 X G IK
  ·exact a6 X G IL
  ·exact a6 X G Av
  ·exact a6 X G IM
  ·exact a6 X G IP
  ·exact a6 X G IQ
  ·exact a6 X G IS
  ·exact a6 X G IT
  ·exact a6 X G DJ
  ·exact a6 X G DK
  ·exact a6 X G zd
  ·exact a6 X G DL
  ·exact a6 X G DM
  ·exact a6 X G DN
 exact⟨fnOf "law" "law" (b4 kI) (aQ kI) (ay kI) .none RG RH RI RF IH RK,fun s v=>.of_eq rfl,fun base _ _ =>
  let me:=cS.mp n3.2
  let SR:=BU FD
  let JC:=XX RP Bl B2
  let GIr:=Zz RS Bl B2 bst JC t5 Js Jx
  let JD:=XY RT B2 JC t5 Js Jx
  let GAp:=X1 RU Bl (a6 X G CT) JD t6 Jt Jy GIr zf bIr mIr
  let xX:=WZ RV JD t6 Jt Jy
  let SS:=ZD Sa GAp zg bAp mAp
  let GM:=VV FM Bl T RN bWa mWa RM bLf mLf RO bRw mRw
  let GFr:=Zs RX Bl T me GM Aw bM mM
  let JE:=WX RW Bl GFr zh bFr mFr
  let JF:=V3 RY xX oN xV xW JE t8 Ju Jz
  let GWy:=YO R5 xX oN xV xW JE t8 Ju Jz
  let SU:=ZE Sg Bl
  let SV:=ZF Se Bl B2 SU wF SG SN JE t8 Ju Jz
  let GKc:=ZG R7 xX oN xV xW SS wC SA SK GWy zj bWy mWy SV wD SF SM
  let GKm:=ZH R6 (YM RQ JC t5 Js Jx) ze bCn mCn JD t6 Jt Jy SS wC SA SK SV wD SF SM
  let SW:=ZI R' TU xX oN xV xW (W2 RZ B2 xX oN xV xW) zi bHe mHe SU wF SG SN
  let GYf:=YI Sk Bl B2 (YF Sj Bl FD bD mD) zo bYp mYp (Zx Si Bl Sh bYm mYm) zm bYn mYn
  let JG:=X2 Sm Bl
  let SX:=ZN Sn B2 (hZ X G FH) TC
  let GTb:=ZQ Sq Bl B2 (a6 X G xT) ⟨_,u4.2⟩ (cS.mp u4.1) xc GKc zl bKc mKc SX wG SH SO JF t9 Jv JA JG ua Jw JB
  let GOi:=ZT Ss Bl B2 (a6 X G xT) ⟨_,u4.2⟩ (cS.mp u3.1) xu SW wB Sx SI SX wG SH SO JF t9 Jv JA GKm zk bKm mKm
  let GBa:=ZV Sv Bl (hZ X G BI) SW wB Sx SI JF t9 Jv JA JG ua Jw JB
  YV FL Bl B2 (YD FP Bl) Ax bP mP SR xU bD mD (WT FN Bl FD bD mD) Ay bN mN GYf zp bYf mYf GTb zt bTb mTb GOi zu bOi mOi GBa zv bBa mBa (ZK So Bl SR xU bD mD) zq bSo mSo JG ua Jw JB⟩
theorem walk {l:OpenLaw}{q:Program}{loose:List Str}{XP:(Str->Option Value)->Heap->Prop}{YP:World->Heap->Prop}{d:DefRec}{K:Params->Frag} (hn:l.most=some 63) (wQ:d.params.defaults = [])
  (hY:∀ (w:World) (h:Heap),YP w h->(K w.params).In h)
  (F:∀ (w:World) (mg:Str->Option Value) (fa:Addr) (h:Heap),(K w.params).In h->h.Ns mainGlobals mg->mg d.name=some (.ref fa) ->
   ∃fd:FuncData,(∀ (s:Shared) (u:Value),BindsTo s fd ⟨[u],[]⟩ [("_law_script", u)]) /\ ∀base:Heap,(K w.params).In base->base.Ns mainGlobals mg->aG l.prog w (K w.params) mg base aL 9 fa fd ["_law_script"] (qm (K w.params))) :
  WalkO q loose XP YP l.row.toRowW d [] (fun f vs=>PySem.call f vs):=
 L2.Xg (n:=63) (k:=9) (x:= "_law_script") (CX:=fun _=>aL) (sp:=fun w=>qm (K w.params)) hn (by decide) wQ ⟨rfl,by decide,by decide,rfl⟩ hY F (fun _ _ a ns hl _ hS=>by unfold qm;exact⟨a,ns,rfl,hS,hl,fun _=>rfl⟩) fun _ _ _ _ _ z=>z
end aX
def PySem.W.Fast.tw6564249333700390154:Nat:=0
def PySem.W.Fast.tw699706771220305827:Nat:=0
def PySem.W.Fast.tw10052418282773956098:Nat:=0
def PySem.W.Fast.tw12460543515668718456:Nat:=0
def PySem.W.Fast.tw17141779458595959906:Nat:=0
def PySem.W.Fast.tw7261803154504485345:Nat:=0
def PySem.W.Fast.tw15616424989207148864:Nat:=0
def PySem.W.Fast.tw670025485293340201:Nat:=0
def PySem.W.Fast.tw11636724207608084795:Nat:=0
def PySem.W.Fast.tw1806795551127192931:Nat:=0
def PySem.W.Fast.tw9501607322816963524:Nat:=0
def PySem.W.Fast.tw15698858092918883686:Nat:=0
def PySem.W.Fast.tw5698037327090190985:Nat:=0
def PySem.W.Fast.tw15340939768634613664:Nat:=0
def PySem.W.Fast.tw10117154954830763736:Nat:=0
def PySem.W.Fast.tw5702023532291529125:Nat:=0
def PySem.W.Fast.tw18002657280068812239:Nat:=0
def PySem.W.Fast.tw10257507844584308682:Nat:=0
def PySem.W.Fast.tw12493001742811149315:Nat:=0
def PySem.W.Fast.tw5477265392627861499:Nat:=0
def PySem.W.Fast.tw4749837770008926951:Nat:=0
def PySem.W.Fast.tw17554947491000223215:Nat:=0
def PySem.W.Fast.tw7742168243291671405:Nat:=0
def PySem.W.Fast.tw16982934966567379858:Nat:=0
def PySem.W.Fast.tw15933837351394340188:Nat:=0
def PySem.W.Fast.tw16344617093412371763:Nat:=0
def PySem.W.Fast.tw14044209132075428164:Nat:=0
def PySem.W.Fast.tw10081419194028099569:Nat:=0
def PySem.W.Fast.tw3937995024032931045:Nat:=0
def PySem.W.Fast.tw1857339686004230195:Nat:=0
def PySem.W.Fast.tw730171461734005343:Nat:=0
def PySem.W.Fast.tw9799952609117568356:Nat:=0
def PySem.W.Fast.tw5571548460263988102:Nat:=0
def PySem.W.Fast.tw14429363546819948186:Nat:=0
def PySem.W.Fast.tw12466325137301417554:Nat:=0
def PySem.W.Fast.tw17515892414864853613:Nat:=0
def PySem.W.Fast.tw1475988143533277405:Nat:=0
def PySem.W.Fast.tw761565177423757076:Nat:=0
def PySem.W.Fast.tw412856959664101895:Nat:=0
def PySem.W.Fast.tw5692863113679517013:Nat:=0
def PySem.W.Fast.tw16026215847128948502:Nat:=0
def PySem.W.Fast.tw10534438311075659969:Nat:=0
def PySem.W.Fast.tw2970344857891711748:Nat:=0
def PySem.W.Fast.tw770874238781066766:Nat:=0
def PySem.W.Fast.tw11291216302703215065:Nat:=0
def PySem.W.Fast.tw8966409291852598356:Nat:=0
def PySem.W.Fast.tw17923129361551047019:Nat:=0
def PySem.W.Fast.tw13358125815716420734:Nat:=0
def PySem.W.Fast.tw6362973008475331108:Nat:=0
def PySem.W.Fast.tw7600967509880946340:Nat:=0
def PySem.W.Fast.tw8490776071370705496:Nat:=0
def PySem.W.Fast.tw17628265468801582040:Nat:=0
def PySem.W.Fast.tw10122246146095868638:Nat:=0
def PySem.W.Fast.tw3700957930000640090:Nat:=0
def PySem.W.Fast.tw3930705949647570739:Nat:=0
def PySem.W.Fast.tw8102932946747859380:Nat:=0
def PySem.W.Fast.tw3179311037886150058:Nat:=0
def PySem.W.Fast.tw14649653588338438322:Nat:=0
def PySem.W.Fast.tw7914610613512138234:Nat:=0
def PySem.W.Fast.tw11847843946757728372:Nat:=0
def PySem.W.Fast.tw13161538736221927274:Nat:=0
def PySem.W.Fast.tw17000318587648521461:Nat:=0
def PySem.W.Fast.tw8771392652750849813:Nat:=0
def PySem.W.Fast.tw2369142384762829308:Nat:=0
def PySem.W.Fast.tw18089241255856279213:Nat:=0
def PySem.W.Fast.tw11720866720941554242:Nat:=0
def PySem.W.Fast.tw812109009297595537:Nat:=0
def PySem.W.Fast.tw9359042603393988268:Nat:=0
def PySem.W.Fast.tw9324636947505490390:Nat:=0
def PySem.W.Fast.tw209596121904204047:Nat:=0
def PySem.W.Fast.tw681614269007643210:Nat:=0
def PySem.W.Fast.tw1144847700654543701:Nat:=0
def PySem.W.Fast.tw10593989709146337464:Nat:=0
def PySem.W.Fast.tw8506089932302052189:Nat:=0
def PySem.W.Fast.tw13473086606458662153:Nat:=0
def PySem.W.Fast.tw14453753416689301157:Nat:=0
def PySem.W.Fast.tw8723148288440305243:Nat:=0
def PySem.W.Fast.tw17541327553762575853:Nat:=0
def PySem.W.Fast.tw16247725401773596463:Nat:=0
def PySem.W.Fast.tw6598113089202195483:Nat:=0
def PySem.W.Fast.tw17997878881253500962:Nat:=0
def PySem.W.Fast.tw13866416522733561218:Nat:=0
def PySem.W.Fast.tw14313516928395147891:Nat:=0
def PySem.W.Fast.tw6808483444687786203:Nat:=0
def PySem.W.Fast.tw8785891220682396030:Nat:=0
def PySem.W.Fast.tw12839222824806935878:Nat:=0
def PySem.W.Fast.tw3045785552284677535:Nat:=0
def PySem.W.Fast.tw13584443630223078469:Nat:=0
def PySem.W.Fast.tw17434396685099185871:Nat:=0
def PySem.W.Fast.tw17761540323923638224:Nat:=0
def PySem.W.Fast.tw12478073451534801515:Nat:=0
def PySem.W.Fast.tw11760289964621560008:Nat:=0
def PySem.W.Fast.tw10892825060329629952:Nat:=0
def PySem.W.Fast.tw3227255844413784275:Nat:=0
def PySem.W.Fast.tw7004244408711526017:Nat:=0
def PySem.W.Fast.tw15806369869268919054:Nat:=0
def PySem.W.Fast.tw8008987689344326829:Nat:=0
def PySem.W.Fast.tw8665722816876106088:Nat:=0
def PySem.W.Fast.tw12490891867459040159:Nat:=0
def PySem.W.Fast.tw12606470981778916954:Nat:=0
def PySem.W.Fast.tw16561428075762862240:Nat:=0
def PySem.W.Fast.tw13719480970289735144:Nat:=0
def PySem.W.Fast.tw185407562165492594:Nat:=0
def PySem.W.Fast.tw2835172634921802991:Nat:=0
def PySem.W.Fast.tw13499572684192772867:Nat:=0
def PySem.W.Fast.tw10825699685647629629:Nat:=0
def PySem.W.Fast.tw18199512584462870130:Nat:=0
def PySem.W.Fast.tw1839204143935308720:Nat:=0
def PySem.W.Fast.tw1335456784942817761:Nat:=0
def PySem.W.Fast.tw5846182784377811457:Nat:=0
def PySem.W.Fast.tw2955016294847283049:Nat:=0
def PySem.W.Fast.tw5083715770480368049:Nat:=0
def PySem.W.Fast.tw9472470010382823039:Nat:=0
def PySem.W.Fast.tw15295006077166903395:Nat:=0
def PySem.W.Fast.tw2240134011425922071:Nat:=0
def PySem.W.Fast.tw9967387645430811050:Nat:=0
def PySem.W.Fast.tw13905063777326148753:Nat:=0
def PySem.W.Fast.tw476982314214193007:Nat:=0
def PySem.W.Fast.tw9805217174565471133:Nat:=0
def PySem.W.Fast.tw335142997080338349:Nat:=0
def PySem.W.Fast.tw3888206090976571269:Nat:=0
def PySem.W.Fast.tw7530601837951288415:Nat:=0
def PySem.W.Fast.tw5214511262879975258:Nat:=0
def PySem.W.Fast.tw2938344059020189464:Nat:=0
def PySem.W.Fast.tw4089210219374039622:Nat:=0
def PySem.W.Fast.tw4499887875514872190:Nat:=0
def PySem.W.Fast.tw7529000787330575163:Nat:=0
def PySem.W.Fast.tw10088476089807869822:Nat:=0
def PySem.W.Fast.tw11159917064581704019:Nat:=0
def PySem.W.Fast.tw1226760367067253111:Nat:=0
def PySem.W.Fast.tw16200242932383395415:Nat:=0
def PySem.W.Fast.tw10538065847593776084:Nat:=0
def PySem.W.Fast.tw16733414142618195249:Nat:=0
def PySem.W.Fast.tw8526092300456736803:Nat:=0
def PySem.W.Fast.tw6802845594198517799:Nat:=0
def PySem.W.Fast.tw10466873895785873126:Nat:=0
def PySem.W.Fast.tw12877302690786454583:Nat:=0
def PySem.W.Fast.tw16170266023467958135:Nat:=0
def PySem.W.Fast.tw12416754977817883326:Nat:=0
def PySem.W.Fast.tw11845087114222171228:Nat:=0
def PySem.W.Fast.tw13962477182918119628:Nat:=0
def PySem.W.Fast.tw18293805970511587737:Nat:=0
def PySem.W.Fast.tw18025977730916493562:Nat:=0
def PySem.W.Fast.tw6555858229260782500:Nat:=0
def PySem.W.Fast.tw1129677978519897451:Nat:=0
def PySem.W.Fast.tw10450648859668953252:Nat:=0
def PySem.W.Fast.tw3169308431594978679:Nat:=0
def PySem.W.Fast.tw16283820990218503416:Nat:=0
def PySem.W.Fast.tw6963685124533861635:Nat:=0
def PySem.W.Fast.tw1810937787184596615:Nat:=0
def PySem.W.Fast.tw7680636593707316411:Nat:=0
def PySem.W.Fast.tw2488855633355740562:Nat:=0
def PySem.W.Fast.tw15370280278155291746:Nat:=0
def PySem.W.Fast.tw7091754349953296565:Nat:=0
def PySem.W.Fast.tw13105385536449135805:Nat:=0
def PySem.W.Fast.tw2414463070240843229:Nat:=0
def PySem.W.Fast.tw17757739846934632676:Nat:=0
def PySem.W.Fast.tw8988055985630745098:Nat:=0
def PySem.W.Fast.tw1071461948570095928:Nat:=0
def PySem.W.Fast.tw15767954574858684637:Nat:=0
def PySem.W.Fast.tw8410275678431272703:Nat:=0
def PySem.W.Fast.tw9252592096380330497:Nat:=0
def PySem.W.Fast.tw90071421115813125:Nat:=0
def PySem.W.Fast.tw3608899010619286807:Nat:=0
def PySem.W.Fast.tw10352614956508034438:Nat:=0
def PySem.W.Fast.tw10592999022886188776:Nat:=0
def PySem.W.Fast.tw6510946657413551069:Nat:=0
def PySem.W.Fast.tw1844488918484247540:Nat:=0
def PySem.W.Fast.tw12753535106998069705:Nat:=0
def PySem.W.Fast.tw11656540451920138721:Nat:=0
def PySem.W.Fast.tw8529017703726591932:Nat:=0
def PySem.W.Fast.tw5370312465079128396:Nat:=0
def PySem.W.Fast.tw2983373492946370656:Nat:=0
def PySem.W.Fast.tw15020121537927640264:Nat:=0
def PySem.W.Fast.tw17026818774778877074:Nat:=0
def PySem.W.Fast.tw12157005111156369583:Nat:=0
def PySem.W.Fast.tw13755553701453324308:Nat:=0
def PySem.W.Fast.tw12781913331415631744:Nat:=0
def PySem.W.Fast.tw10966839071770004469:Nat:=0
def PySem.W.Fast.tw6049052725363290314:Nat:=0
def PySem.W.Fast.tw1709123335187136820:Nat:=0
def PySem.W.Fast.tw15363943017136529871:Nat:=0
def PySem.W.Fast.tw9404408649897865973:Nat:=0
def PySem.W.Fast.tw12769599533876844378:Nat:=0
def PySem.W.Fast.tw12940808451672061805:Nat:=0
def PySem.W.Fast.tw5346501020202173506:Nat:=0
def PySem.W.Fast.tw13955161213830755721:Nat:=0
def PySem.W.Fast.tw8041706369874244943:Nat:=0
def PySem.W.Fast.tw6851812770303186780:Nat:=0
def PySem.W.Fast.tw13729802023845182917:Nat:=0
def PySem.W.Fast.tw13665188837849769221:Nat:=0
def PySem.W.Fast.tw8482825474968842703:Nat:=0
def PySem.W.Fast.tw16311817479465653279:Nat:=0
def PySem.W.Fast.tw4774084365639595929:Nat:=0
def PySem.W.Fast.tw7357757475216321884:Nat:=0
def PySem.W.Fast.tw9107997060725979771:Nat:=0
def PySem.W.Fast.tw15311082477495748690:Nat:=0
def PySem.W.Fast.tw9353050106174621419:Nat:=0
def PySem.W.Fast.tw13567256825820197863:Nat:=0
def PySem.W.Fast.tw9702275478179098653:Nat:=0
def PySem.W.Fast.tw7609730529690172468:Nat:=0
def PySem.W.Fast.tw9125200784800344690:Nat:=0
def PySem.W.Fast.tw15464077103044062233:Nat:=0
def PySem.W.Fast.tw4296810006977401657:Nat:=0
def PySem.W.Fast.tw18057495481726626666:Nat:=0
def PySem.W.Fast.tw9388405188276565827:Nat:=0
def PySem.W.Fast.tw4585248236230934251:Nat:=0
def PySem.W.Fast.tw702624882111209627:Nat:=0
def PySem.W.Fast.tw472815173995151327:Nat:=0
def PySem.W.Fast.tw3067573727483294040:Nat:=0
def PySem.W.Fast.tw14003017595649159344:Nat:=0
def PySem.W.Fast.tw6183326387684705300:Nat:=0
def PySem.W.Fast.tw17652882763057987348:Nat:=0
def PySem.W.Fast.tw5839008202749900862:Nat:=0
def PySem.W.Fast.tw9531362521993580315:Nat:=0
def PySem.W.Fast.tw11436969854401572594:Nat:=0
def PySem.W.Fast.tw7727332085378830719:Nat:=0
def PySem.W.Fast.tw12411523083258896713:Nat:=0
def PySem.W.Fast.tw2442265582814430587:Nat:=0
def PySem.W.Fast.tw16605459448553523828:Nat:=0
def PySem.W.Fast.tw16906307735316066848:Nat:=0
def PySem.W.Fast.tw17764247404409605669:Nat:=0
def PySem.W.Fast.tw8503998626173928958:Nat:=0
def PySem.W.Fast.tw1976063484746454654:Nat:=0
def PySem.W.Fast.tw4178238063866340626:Nat:=0
def PySem.W.Fast.tw17248674034722053981:Nat:=0
def PySem.W.Fast.tw15944901001436924716:Nat:=0
def PySem.W.Fast.tw4470081846405693950:Nat:=0
def PySem.W.Fast.tw16586886823324739305:Nat:=0
def PySem.W.Fast.tw9638684089018958397:Nat:=0
def PySem.W.Fast.tw3357760327280884508:Nat:=0
def PySem.W.Fast.tw12614575846967399379:Nat:=0
def PySem.W.Fast.tw16815094687554131428:Nat:=0
def PySem.W.Fast.tw13673972594671705786:Nat:=0
def PySem.W.Fast.tw1391522947918607553:Nat:=0
def PySem.W.Fast.tw17310374394256874057:Nat:=0
def PySem.W.Fast.tw17108292808508596257:Nat:=0
def PySem.W.Fast.tw18284496231995850391:Nat:=0
def PySem.W.Fast.tw4826814864804969493:Nat:=0
def PySem.W.Fast.tw5719701353846878446:Nat:=0
def PySem.W.Fast.tw10522342036177860992:Nat:=0
def PySem.W.Fast.tw663170260305284534:Nat:=0
def PySem.W.Fast.tw607025780326146540:Nat:=0
def PySem.W.Fast.tw11290290900325425259:Nat:=0
def PySem.W.Fast.tw11272506280151394200:Nat:=0
def PySem.W.Fast.tw3914730019692059756:Nat:=0
def PySem.W.Fast.tw4795841798879155679:Nat:=0
def PySem.W.Fast.tw11760071103973985341:Nat:=0
def PySem.W.Fast.tw501221393666143179:Nat:=0
def PySem.W.Fast.tw12124837227306042188:Nat:=0
def PySem.W.Fast.tw17851526239254959970:Nat:=0
def PySem.W.Fast.tw5841530070878493698:Nat:=0
def PySem.W.Fast.tw18334336384816956833:Nat:=0
def PySem.W.Fast.tw4859398230236593513:Nat:=0
def PySem.W.Fast.tw11121340711331627663:Nat:=0
def PySem.W.Fast.tw7534934011855945983:Nat:=0
def PySem.W.Fast.tw2795665109599706744:Nat:=0
def PySem.W.Fast.tw14149381487282364941:Nat:=0
def PySem.W.Fast.tw9596684390530337370:Nat:=0
def PySem.W.Fast.tw5041750783942669924:Nat:=0
def PySem.W.Fast.tw11510823939041742173:Nat:=0
def PySem.W.Fast.tw1713680244542566774:Nat:=0
def PySem.W.Fast.tw13197467836062451032:Nat:=0
def PySem.W.Fast.tw16709240956826989712:Nat:=0
open PySem PySem.W PyProof.Rows
set_option maxRecDepth 100000 in
set_option maxHeartbeats 0 in
theorem PySem.Challenge.cw_parentlines_k27_changed_and_back_holds : PySem.Challenge.rw_parentlines_k27_changed_and_back.Holds := by
 w_on;o_law;k_head;(case hw=>w_witness2)
 k_fill
 refine aX.walk (l:=PySem.Challenge.rw_parentlines_k27_changed_and_back) rfl rfl (fun w h Y=>PySem.W.kIn_of Y) ?F
 case F =>
  intro w mg fa h KX G qN
  refine' aX.all_mk KX G qN ?II ?IJ ?IK ?IL ?Av ?IM ?IP ?IQ ?IS ?IT ?DJ ?DK ?zd ?DL ?DM ?DN ?xT ?RL ?IU ?IV ?IW ?IX ?IY ?IZ ?I0 ?Ja ?Aw ?DO ?DP ?DQ ?DR ?DS ?DT ?DU ?DV ?DW ?DX ?DY ?DZ ?D0 ?D1 ?D3 ?t5 ?D4 ?D5 ?D6 ?ze ?D7 ?D8 ?D9 ?zf ?D' ?Ea ?Eb ?t6 ?Ec ?Ed ?Ee ?zg ?Ef ?Eg ?Eh ?oN ?Ei ?Ej ?Ek ?t8 ?El ?Em ?En ?zh ?Eo ?Ep ?Er ?t9 ?Es ?Et ?Eu ?zi ?Ew ?Ex ?Ey ?zj ?Ez ?EA ?EB ?zk ?EC ?ED ?EF ?zl ?EG ?EH ?EI ?wB ?EJ ?EK ?EL ?wC ?EM ?EN ?EO ?wD ?ER ?ES ?ET ?wF ?Jb ?Jc ?Jd ?Ax ?Je ?Jf ?Jg ?xU ?Jh ?Ji ?Jj ?Ay ?EU ?EV ?EW ?EX ?EY ?EZ ?E1 ?zm ?E3 ?E4 ?E5 ?zo ?E6 ?E7 ?E8 ?zp ?E9 ?Fb ?Fc ?ua ?Fd ?Fe ?Ff ?wG ?Fg ?Fh ?Fi ?zq ?Fj ?Fl ?Fn ?zt ?Fo ?Fp ?Fq ?zu ?Ft ?Fu ?Fv ?zv ?Jk ?Jl ?Jm ?Jn ?Jo ?Jp ?gM ?Jq ?oS ?Az ?CT ?Jr ?Fw ?Fx ?Fy ?Fz ?Cu ?FC ?FE ?CU ?Cv ?Bq ?Ba ?FF ?CV ?Cd ?FG ?FH ?BI ?Bb
  (case II=>k_is)
  (case IJ=>k_is)
  (case IK=>k_is)
  (case IL=>k_is)
  (case Av=>k_is)
  (case IM=>k_is)
  (case IP=>k_is)
  (case IQ=>k_is)
  (case IS=>k_is)
  (case IT=>k_is)
  (case DJ=>k_is)
  (case DK=>k_is)
  (case zd=>k_is)
  (case DL=>k_is)
  (case DM=>k_is)
  (case DN=>k_is)
  (case xT=>k_is)
  (case RL=>k_is)
  (case IU=>k_is)
  (case IW=>k_is)
  (case IX=>k_is)
  (case IY=>k_is)
  (case IZ=>k_is)
  (case I0=>k_is)
  (case Ja=>k_is)
  (case Aw=>k_is)
  (case DO=>k_is)
  (case DP=>k_is)
  (case DQ=>k_is)
  (case DR=>k_is)
  (case DS=>k_is)
  (case DT=>k_is)
  (case DU=>k_is)
  (case DV=>k_is)
  (case DW=>k_is)
  (case DX=>k_is)
  (case DY=>k_is)
  (case DZ=>k_is)
  (case D0=>k_is)
  (case D1=>k_is)
  (case D3=>k_is)
  (case t5=>k_is)
  (case D4=>k_is)
  (case D5=>k_is)
  (case D6=>k_is)
  (case ze=>k_is)
  (case D7=>k_is)
  (case D8=>k_is)
  (case D9=>k_is)
  (case zf=>k_is)
  (case D'=>k_is)
  (case Ea=>k_is)
  (case Eb=>k_is)
  (case t6=>k_is)
  (case Ec=>k_is)
  (case Ed=>k_is)
  (case Ee=>k_is)
  (case zg=>k_is)
  (case Ef=>k_is)
  (case Eg=>k_is)
  (case Eh=>k_is)
  (case oN=>k_is)
  (case Ei=>k_is)
  (case Ej=>k_is)
  (case Ek=>k_is)
  (case t8=>k_is)
  (case El=>k_is)
  (case Em=>k_is)
  (case En=>k_is)
  (case zh=>k_is)
  (case Eo=>k_is)
  (case Ep=>k_is)
  (case Er=>k_is)
  (case t9=>k_is)
  (case Es=>k_is)
  (case Et=>k_is)
  (case Eu=>k_is)
  (case zi=>k_is)
  (case Ew=>k_is)
  (case Ex=>k_is)
  (case Ey=>k_is)
  (case zj=>k_is)
  (case Ez=>k_is)
  (case EA=>k_is)
  (case EB=>k_is)
  (case zk=>k_is)
  (case EC=>k_is)
  (case ED=>k_is)
  (case EF=>k_is)
  (case zl=>k_is)
  (case EG=>k_is)
  (case EH=>k_is)
  (case EI=>k_is)
  (case wB=>k_is)
  (case EJ=>k_is)
  (case EK=>k_is)
  (case EL=>k_is)
  (case wC=>k_is)
  (case EM=>k_is)
  (case EN=>k_is)
  (case EO=>k_is)
  (case wD=>k_is)
  (case ER=>k_is)
  (case ES=>k_is)
  (case ET=>k_is)
  (case wF=>k_is)
  (case Jb=>k_is)
  (case Jc=>k_is)
  (case Jd=>k_is)
  (case Ax=>k_is)
  (case Je=>k_is)
  (case Jf=>k_is)
  (case Jg=>k_is)
  (case xU=>k_is)
  (case Jh=>k_is)
  (case Ji=>k_is)
  (case Jj=>k_is)
  (case Ay=>k_is)
  (case EU=>k_is)
  (case EV=>k_is)
  (case EW=>k_is)
  (case EX=>k_is)
  (case EY=>k_is)
  (case EZ=>k_is)
  (case E1=>k_is)
  (case zm=>k_is)
  (case E3=>k_is)
  (case E4=>k_is)
  (case E5=>k_is)
  (case zo=>k_is)
  (case E6=>k_is)
  (case E7=>k_is)
  (case E8=>k_is)
  (case zp=>k_is)
  (case E9=>k_is)
  (case Fb=>k_is)
  (case Fc=>k_is)
  (case ua=>k_is)
  (case Fd=>k_is)
  (case Fe=>k_is)
  (case Ff=>k_is)
  (case wG=>k_is)
  (case Fg=>k_is)
  (case Fh=>k_is)
  (case Fi=>k_is)
  (case zq=>k_is)
  (case Fj=>k_is)
  (case Fl=>k_is)
  (case Fn=>k_is)
  (case zt=>k_is)
  (case Fo=>k_is)
  (case Fp=>k_is)
  (case Fq=>k_is)
  (case zu=>k_is)
  (case Ft=>k_is)
  (case Fu=>k_is)
  (case Fv=>k_is)
  (case zv=>k_is)
  (case Jk=>k_is)
  (case Jl=>k_is)
  (case Jm=>k_is)
  (case Jn=>k_is)
  (case CT=>k_is)
  (case Jr=>k_is)
  (case Fw=>k_is)
  (case Fx=>k_is)
  (case Fy=>k_is)
  (case Fz=>k_is)
  (case Cu=>k_is)
  (case FC=>k_is)
  (case FE=>k_is)
  (case CU=>k_is)
  (case Cv=>k_is)
  (case Bq=>k_is)
  (case Ba=>k_is)
  (case FF=>k_is)
  (case CV=>k_is)
  (case Cd=>k_is)
  (case FG=>k_is)
  (case FH=>k_is)
  (case BI=>k_is)
  (case Bb=>k_is)
  (case IV=>kernel_rfl)
  (case Jo=>kernel_rfl)
  (case Jp=>kernel_rfl)
  (case gM=>kernel_rfl)
  (case Jq=>kernel_rfl)
  (case oS=>kernel_rfl)
  (case Az=>kernel_rfl)
