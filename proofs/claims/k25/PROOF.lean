import PyProof.Rows.All
import Wide.All
import OpenK.AllK
import Wide.FinOn
import Lean
import PyProof.EqAt
import PyProof.EqKinds
import PyProof.TupleCall
import PyProof.ReprRoads
import PyProof.ReprBulk
import PyProof.EnumMake
import PyProof.EnumFor
import KE.KRevSl
import KE.KDictList
import PyProof.ZipIter
import PyProof.AttrMissHeap
import KE.KDictOf
import KE.KItemsList
import PyProof.Rows.ZipGen
import PyProof.CallFns
import PyProof.NsDelKeeps
import PyProof.StrWalks
import PyProof.FString5
import KE.KSortTup
import PyProof.SetRoads
import PyProof.SetNew
import PyProof.Rows.SetFrom
import PyProof.WalksMore
import PyProof.ForAny
import PyProof.DictWalks
import PyProof.MeetsDict
import PyProof.P3Eq
import PySem.Challenge.RW_parentlines_k25_whole_kinds_made_in_any
set_option Elab.async false
set_option linter.all false
set_option maxRecDepth 100000
set_option maxHeartbeats 4000000
def ae:=@PySem.wpAny_bind
def aj:=@PySem.wpAny_pure
def au:=@if_neg
def ax:=@List.length_map
def aB:=@if_pos
def aE:=@PySem.sizeLine_eq
def aO:=@Nat.le_refl
def aQ:=@Ne.symm
def aR:=@PySem.Heap.lt_size
def aS:=@List.mem_map
def aT:=@PySem.Heap.get?_push_of_some
def aZ:=@List.mem_cons_self
def a9:=@List.mem_cons
def bc:=@List.map_append
def bj:=@Nat.ne_of_lt
def bG:=@Nat.zero_le
def bH:=@List.getElem?_eq_getElem
def bJ:=@List.mem_cons_of_mem
def bU:=@List.getElem?_eq_some_iff
def bZ:=@PySem.Heap.get?_push_size
def cA:=@List.map_cons
def cK:=@List.length_take
def cP:=@Bool.false_ne_true
def cQ:=@List.size_toArray
def cT:=@beq_iff_eq
def cX:=@PySem.wpAny_holding
def de:=@List.length_append
def df:=@List.take_succ
def du:=@List.take_length
def dU:=@Nat.le_trans
def d4:=@List.length_cons
def eO:=@congrArg
def eP:=@List.nodup_cons
def eQ:=@PySem.wpAny_field
def fb:=@List.mem_append
def gj:=@Nat.lt_of_lt_of_le
def gk:=@List.mem_append_right
def gm:=@decide_eq_true
def gn:=@List.mem_singleton
def gq:=@PySem.boot_len
def gy:=@Option.some.inj
def gA:=@List.getElem?_map
def gB:=@List.mem_of_getElem?
def gP:=@List.append_nil
def gQ:=@PySem.codeAny_builtin
def iC:=@List.mem_filter
def iD:=@Option.map_eq_some_iff
def iM:=@PySem.Heap.get?_update_other
def iN:=@List.length_singleton
def iO:=@List.lookup_cons
def jd:=@decide_eq_false
def je:=@PySem.Around.under_plainId
def jf:=@List.getElem_mem
def jg:=@List.nodup_append
def jh:=@PySem.wpAny_call_entry
def ji:=@List.map_map
def jk:=@List.length_filter_le
def jF:=@PySem.Paired.length
def jG:=@Array.length_toList
def jH:=@PySem.Heap.size_push
def jI:=@Bool.and_eq_true_iff
def jJ:=@List.getD_eq_getElem?_getD
def j9:=@PySem.wpAny_newObj_type
def j':=@if_false
def kc:=@PySem.plainId_quiet
def ke:=@PySem.PassesOwn.never
def kf:=@PySem.F.plainAttrs_list
def kh:=@List.filter_append
def k6:=@PySem.wpAny_mono
def k7:=@PySem.wpAny_setState_of
def lR:=@List.mem_append_left
def lT:=@PySem.wpAny_truthy_bool
def lU:=@PySem.wpAny_rule
def lV:=@Nat.ne_of_gt
def lW:=@PySem.Heap.get?_update_self
def lX:=@PySem.wpAny_setField_rec
def lY:=@List.nodup_nil
def lZ:=@List.not_mem_nil
def md:=@or_false
def nB:=@beq_eq_false_iff_ne
def nC:=@List.mem_range
def nD:=@PySem.W.kia_one
def nE:=@Int.toNat_natCast
def nF:=@PySem.wpAny_seqItems
def nG:=@Array.getD_eq_getD_getElem?
def oG:=@PySem.wpAny_standAt
def oH:=@PySem.wpAny_call
def oJ:=@PySem.wpAny_Call_Name_kw
def oK:=@PySem.mem_of_lookup
def oM:=@if_true
def oN:=@Nat.le_succ
def oO:=@Bool.false_eq_true
def oP:=@PySem.wpAny_typeOf
def oQ:=@List.all_eq_true
def oR:=@PySem.wpAny_askSetting
def oS:=@List.Perm.refl
def qo:=@Nat.lt_irrefl
def qp:=@List.mem_filterMap
def qq:=@PySem.codeAny_mono
def qr:=@PySem.wpAny_setField
def qt:=@PySem.wpAny_callSpecial?_slot
def qu:=@PySem.F.slot_list_append
def qv:=@PySem.F.type_list_append
def qw:=@Nat.lt_of_le_of_lt
def qx:=@Nat.add_le_add_left
def sd:=@Sum.inr.inj
def se:=@List.any_cons
def sf:=@PySem.wpAny_attempt
def sg:=@List.any_eq_true
def sh:=@PySem.wpAny_throw
def si:=@PySem.Heap.UpToSlots.trans
def sj:=@PySem.F.called_set
def sk:=@Nat.lt_succ_of_lt
def sq:=@List.pairwise_map
def sr:=@PySem.F.slot_zip_next
def su:=@List.filter_cons_of_pos
def vo:=@Nat.le_of_lt
def vp:=@PySem.wpAny_execs_nil
def vq:=@PySem.wpAny_passesOwn
def vt:=@Bool.eq_iff_iff
def vv:=@List.length_replicate
def vw:=@Bool.and_eq_true
def vy:=@Nat.lt_trans
def vz:=@List.getElem_of_mem
def vA:=@List.eq_nil_of_length_eq_zero
def vB:=@Array.getElem?_eq_getElem
def vC:=@Nat.le_add_right
def vD:=@Nat.lt_add_right
def vE:=@List.mem_of_mem_take
def vF:=@List.filter_cons_of_neg
def yK:=@PySem.wpAny_load
def yL:=@PySem.wpAny_pyIter_list
def yM:=@PyProof.Rows.callWith_type1
def yN:=@List.take_sublist
def yO:=@PySem.W.any_some
def yP:=@PySem.wpAny_loadPart
def yQ:=@List.length_nil
def yR:=@Array.getElem?_eq_some_iff
def yS:=@List.drop_eq_getElem_cons
def yT:=@List.find?_cons
def yU:=@PySem.wpAny_runValue
def yV:=@PySem.wpAny_newList
def yW:=@PySem.Heap.SameBut.update
def yX:=@Nat.not_lt_zero
def yY:=@PySem.F.plain_list_iadd
def yZ:=@of_decide_eq_true
def y4:=@List.map_congr_left
def y6:=@List.replicate_succ'
def By:=@Option.map_some
def Bz:=@PySem.Heap.get?_none_of_le
def BA:=@List.getElem?_append_left
def BB:=@PySem.seqIndex_of
def BC:=@PySem.call_meets
def BD:=@Array.getElem?_toList
def BE:=@List.forIn_cons
def BF:=@List.forIn_nil
def BG:=@PySem.wpAny_loadPart_at
def BH:=@PySem.F.store_object
def BI:=@PySem.W.looks_mroIn
def BJ:=@List.any_map
def BK:=@Nat.not_lt
def BL:=@PySem.typeLookup_type
def BM:=@PySem.builtinLookup_eq_fast
def BN:=@PySem.W.hideAll_none
def BO:=@PySem.Obj.data_mapFields
def BP:=@Nat.lt_succ_self
def BQ:=@PySem.wpAny_isInstance
def BR:=@Array.getElem?_eq_none
def BS:=@PySem.F.slot_dict_keyiterator_next
def BU:=@List.mem_of_mem_drop
def BV:=@Option.map_map
def BW:=@PySem.SeqAt.eqv_refl
def HI:=@PySem.Value.isStrOf_shape
def HJ:=@List.of_mem_zip
def HK:=@List.length_drop
def HL:=@List.reverse_cons
def HM:=@List.map_nil
def HN:=@List.append_assoc
def HP:=@PySem.wpAny_noRaise
def HQ:=@PySem.Code.quiet_builtin
def HR:=@PySem.codeAny_call_builtin
def HU:=@Option.bind_some
def HV:=@PySem.W.Looks.here
def HW:=@PySem.W.callWith_K
def HX:=@PySem.wpAny_getItem_str_slice
def HY:=@PySem.post_val_or_str
def HZ:=@Array.toList_inj
def Ia:=@Array.size_append
def Ib:=@List.length_pos_of_mem
def Ic:=@PySem.F.plain_any_loop
def Ie:=@List.length_reverse
def Ig:=@PySem.tupleKind_room_in1
def Ih:=@List.getElem?_eq_none
def Ii:=@PySem.wpAny_landsW
def Ij:=@PySem.wpAny_handled
def Ik:=@PySem.fits_of_scanBound
def Il:=@PySem.wpAny_of_eq
def Im:=@PySem.isSubtype_stop
def Io:=@Nat.lt_of_succ_lt_succ
def Ip:=@PySem.wpAny_pyIter_slot
def Iq:=@List.nodup_iff_pairwise_ne
def Ir:=@List.take_of_length_le
def Iu:=@PySem.F.entry_zip_next
def Iv:=@PySem.F.args_zip_next_1
def Iw:=@PySem.wpAny_typeNameOfWhole_keyiter
def Iy:=@PySem.wpAny_typeNameOf_keyiter
def Iz:=@List.sum_cons
def IA:=@List.drop_length
def IB:=@Bool.and_true
def IC:=@List.map_drop
def ID:=@List.filter_eq_self
def IE:=@Nat.min_eq_left
def IF:=@Int.emod_nonneg
def IG:=@Int.emod_lt_of_pos
def IH:=@Int.eq_ofNat_of_zero_le
def II:=@List.map_take
def QL:=@List.filterMap_cons
def QM:=@List.getElem_inj
def QN:=@List.getElem?_set_self
def QO:=@List.getElem?_set_ne
def QP:=@PySem.wpAny_execs_cons
def QQ:=@PyProof.Rows.assignInOrder_cons
def QR:=@List.any_eq_false
def QS:=@PySem.W.cellsFrom_some
def QU:=@PySem.noFill_tuple_add
def QV:=@PySem.seq_tuple_add
def QW:=@PySem.F.slot_tuple_add
def QX:=@PySem.F.entry_tuple_add
def QY:=@PySem.F.args_tuple_add_2
def QZ:=@PySem.evalPart_none
def Q0:=@PySem.slot_list_getitem
def Q1:=@Bool.or_false
def Q3:=@List.lookup_append
def Q4:=@PySem.wpAny_comprehension_free
def Q5:=@PySem.codeAny_of_tree
def Q6:=@PySem.F.excBase_ValueError
def Q7:=@List.length_range
def Q8:=@List.length_filterMap_le
def Q9:=@List.length_erase_of_mem
def Ra:=@List.mem_erase_of_ne
def Rb:=@Bool.false_or
def Rc:=@List.drop_of_length_le
def Rf:=@Option.isSome_map
def Rg:=@PySem.wpAny_specialOf
def Rh:=@PySem.Heap.DictOf.new
def Ri:=@PySem.entryFor_alias
def Rj:=@PySem.F.slot_zip_getattribute
def Rk:=@PySem.wpAny_Try_except
def Rl:=@PySem.wpAny_looks_onW
def Rm:=@PySem.wpAny_handleBy_cons
def Rn:=@PySem.codeAny_handlers_test
def Ro:=@PySem.Obj.isFreed_of_fields
def Rp:=@PySem.F.slot_tuple_getattribute
def Rq:=@List.take_append_drop
def Rr:=@PySem.wpAny_notOrdered_dict
def Rt:=@List.ext_getElem
def Rv:=@PySem.wpAny_newTuple
def Rw:=@PyProof.Rows.F.plain_set_update_loop
def Rx:=@PySem.isSubtype_type
def Ry:=@PySem.wpAny_fieldsOf
def Rz:=@List.Perm.append_left
def RB:=@PySem.wpAny_ite_split
def RC:=@PySem.F.entry_proto_collect
def RE:=@PySem.F.plain_proto_collect
def RF:=@PySem.F.entry_list_iadd
def RG:=@PySem.Calls.call_function_entry
def RI:=@PySem.ReadAtMost.cons
def RK:=@List.map_fst_zip
def RL:=@List.length_zip
def RM:=@List.getElem?_zip_eq_some
def RN:=@PySem.wpAny_dictEntries
def RO:=@PySem.wpAny_dictEpoch
def RP:=@PySem.wpAny_onRaise
def RQ:=@PySem.wpAny_pyIter_zip
def RS:=@List.mem_reverse
def RT:=@List.map_reverse
def RU:=@Nat.min_eq_right
def RV:=@List.mem_of_head?
def RW:=@PySem.F.slot_list_index
def RX:=@PySem.F.type_list_index
def RY:=@PySem.PassesOwn.leaving
def RZ:=@List.filter_cons
def R7:=@List.perm_ext_iff_of_nodup
def ahx:=@PySem.Calls.Name_function_global
def ahE:=@Option.isSome_iff_exists
def ahF:=@List.getElem?_append_right
def ahI:=@PySem.wpAny_newFunctionEnv_cells
def ahJ:=@PyProof.Rows.callWith_builtin1
def ahQ:=@PySem.F.attrBase_ValueError
def ahT:=@PySem.plainObj_wpAny_Assign_Attribute
def ahU:=@List.getElem_toArray
def ahV:=@Array.toArray_toList
def ahW:=@PySem.codeAny_handlers_suite_as
def ahY:=@Array.mem_of_getElem?
def ahZ:=@Array.perm_iff_toList_perm
def ah3:=@List.length_eraseIdx
def ah4:=@PySem.F.plain_extend_loop
def ah8:=@Classical.choose_spec
def aic:=@PySem.F.entry_dict_keyiterator_next
def aid:=@PySem.F.args_dict_keyiterator_next_1
def aii:=@List.length_pos_iff
def ail:=@List.countP_eq_length_filter
def aim:=@Classical.byContradiction
def ain:=@PySem.F.slot_list_pop
def aio:=@PySem.F.type_list_pop
def aiq:=@List.take_append_of_le_length
def air:=@List.length_dropLast
def ais:=@List.cons_lt_cons_iff
namespace L2
open PySem PySem.Spec PyProof.Rows
abbrev Key:=Sum Int Str
def tK:Key->Value->Bool
 |.inl k,v=>Value.isInt k v
 |.inr x,v=>Value.isStrOf x v
def Zy (w:World):Key->Int
 |.inl k=>hashInt k
 |.inr x=>hashStr w x
theorem nI:∀ {k:Key}{v:Value},tK k v=true->(∃i t,k=Sum.inl i/\v=Value.int i t)\/(∃x t,k=Sum.inr x/\v=Value.str x t)
 |.inl i,v,h=>by
  obtain⟨t,e⟩:=Value.isInt_shape (k:=i) (v:=v) h;exact .inl ⟨i,t,rfl,e⟩
 |.inr x,v,h=>by
  obtain⟨t,e⟩:=HI (x:=x) (v:=v) h;exact .inr ⟨x,t,rfl,e⟩
theorem Ur (i:Int) (t:Tok):tK (.inl i) (.int i t)=true:=by simp[tK,Value.isInt]
theorem Us (x:Str) (t:Tok):tK (.inr x) (.str x t)=true:=by simp[tK,Value.isStrOf]
theorem Xj (a b:Int):decide ((Sum.inl a:Key)=Sum.inl b)=(a==b):=by
 by_cases e:a=b
 ·subst e;simp
 ·have h : ¬ (Sum.inl a:Key)=Sum.inl b:=fun q=>e (Sum.inl.inj q)
  rw[jd h];exact(nB.mpr e).symm
theorem Xk (a b:Str):decide ((Sum.inr a:Key)=Sum.inr b)=decide (a=b):=by
 by_cases e:a=b
 ·subst e;simp
 ·have h : ¬ (Sum.inr a:Key)=Sum.inr b:=fun q=>e (sd q)
  rw[jd h,jd e]
theorem Xl (a:Int) (b:Str):decide ((Sum.inl a:Key)=Sum.inr b)=false:=jd (fun q=>nomatch q)
theorem Xm (a:Str) (b:Int):decide ((Sum.inr a:Key)=Sum.inl b)=false:=jd (fun q=>nomatch q)
def bB (prog:Program) (w:World):PySem.KeyKind prog w Key where
 is:=tK
 hash:=Zy w
 inj:=fun v a b ha hb=>by
  rcases nI ha with⟨i,t,rfl,rfl⟩|⟨x,t,rfl,rfl⟩
  ·rcases nI hb with⟨j,u,rfl,e⟩|⟨y,u,rfl,e⟩
   ·injection e with e1 _;rw[e1]
   ·exact nomatch e
  ·rcases nI hb with⟨j,u,rfl,e⟩|⟨y,u,rfl,e⟩
   ·exact nomatch e
   ·injection e with e1 _;rw[e1]
 byValue:=fun k v h=>by
  rcases nI h with⟨i,t,rfl,rfl⟩|⟨x,t,rfl,rfl⟩ <;> rfl
 pyHash:=fun hv h=>by
  rcases nI hv with⟨i,t,rfl,rfl⟩|⟨x,t,rfl,rfl⟩
  ·exact wpAny_pyHash_int h
  ·exact wpAny_pyHash_str h
 eqBool:=fun hu hv h=>by
  rcases nI hu with⟨i,t,rfl,rfl⟩|⟨x,t,rfl,rfl⟩
  ·rcases nI hv with⟨j,u,rfl,rfl⟩|⟨y,u,rfl,rfl⟩
   ·rw[Xj]at h;exact wpAny_eqBool_int h
   ·rw[Xl]at h;exact SeqAt.EqAt.int_str i t y u _ _ _ _ h
  ·rcases nI hv with⟨j,u,rfl,rfl⟩|⟨y,u,rfl,rfl⟩
   ·rw[Xm]at h;exact SeqAt.EqAt.str_int x t j u _ _ _ _ h
   ·rw[Xk]at h;exact wpAny_eqBool_str h
 «strs» :=fun k x t v h=>by
  rcases nI h with⟨i,u,rfl,e⟩|⟨y,u,rfl,e⟩
  ·exact nomatch e
  ·injection e with e1 _
   subst e1;cases v <;> rfl
theorem SV (prog:Program) (w:World) (i:Int) (t:Tok):(bB prog w).is (.inl i) (.int i t)=true:=Ur i t
theorem SW (prog:Program) (w:World) (x:Str) (t:Tok):(bB prog w).is (.inr x) (.str x t)=true:=Us x t
inductive V where
 |aF|bl (b:Bool)|int (i:Int)|str (x:Str)|jy (b:Array UInt8)|jz (b:UInt64)|ref (a:Addr)|ty (n:String)
 deriving DecidableEq
def RelV:V->Value->Prop
 |.aF,u=>u=Value.none
 |.bl b,u=>u=Value.bool b
 |.int i,u=>∃t,u=Value.int i t
 |.str x,u=>∃t,u=Value.str x t
 |.jy b,u=>∃t,u=Value.bytes b t
 |.jz b,u=>∃t,u=Value.float b t
 |.ref a,u=>u=Value.ref a
 |.ty n,u=>u=Value.type n
abbrev Vals:List V->List Value->Prop:=Paired RelV
theorem Vals.length {xs:List V}{us:List Value} (r:Vals xs us):xs.length=us.length:=jF r
theorem Vals.get:∀ {xs:List V}{us:List Value}{i:Nat}{x:V},Vals xs us->xs[i]? = some x -> ∃u,us[i]? = some u/\RelV x u
 |_,_,_,_,.nil,e=>by simp at e
 |_,_,0,_,.cons r _,e=>by simp at e;subst e;exact⟨_,rfl,r⟩
 |_,_,i+1,x,.cons _ t,e=>by
  obtain⟨u,h1,h2⟩:=Vals.get (i:=i) (x:=x) t (by simpa using e)
  exact⟨u,by simpa using h1,h2⟩
theorem Vals.set {x:V}{u:Value} (r:RelV x u):∀ {xs:List V}{us:List Value} (i:Nat),Vals xs us->Vals (xs.set i x) (us.set i u)
 |_,_,_,.nil=>.nil
 |_,_,0,.cons _ t=>.cons r t
 |_,_,i+1,.cons q t=>.cons q (Vals.set r i t)
theorem Vals.append:∀ {xs ys:List V}{us ws:List Value},Vals xs us->Vals ys ws->Vals (xs++ys) (us++ws)
 |_,_,_,_,.nil,s=>s
 |_,_,_,_,.cons r t,s=>.cons r (Vals.append t s)
theorem Vals.take:∀ {xs:List V}{us:List Value} (n:Nat),Vals xs us->Vals (xs.take n) (us.take n)
 |_,_,0,_=>.nil
 |_,_,_+1,.nil=>.nil
 |_,_,n+1,.cons r t=>.cons r (Vals.take n t)
theorem Vals.drop:∀ {xs:List V}{us:List Value} (n:Nat),Vals xs us->Vals (xs.drop n) (us.drop n)
 |_,_,0,r=>r
 |_,_,_+1,.nil=>.nil
 |_,_,n+1,.cons _ t=>Vals.drop n t
def ib:Option V->Option Value->Prop
 |some v,some u=>RelV v u
 |none,none=>True
 |_,_=>False
def KV {κ:Type}:List (κ×V)->List (κ×Value)->Prop:=Paired fun(p:κ×V) (q:κ×Value)=>p.1=q.1/\RelV p.2 q.2
def kV:Key->V
 |.inl i=>.int i
 |.inr x=>.str x
inductive HO where
 |lst (xs:List V)
 |tup (xs:List V)
 |dK (kvs:List (Key×V))|dT (kvs:List (List Key×V))
 |set (S:Int->Bool) (n:Nat)
 |ins (C dx:Addr) (fs:List (Str×V))
 |own (x:Addr)
 |xd (fs:List (Str×V))
 |met (f x:Addr)
 |xu (lo hi:Int)
 |dE (o:Obj) (u:HO)
 |oh (ps:Array Value)
 |ext (φ:Heap->Prop)
abbrev Hp:=Addr->Option HO
def upd (H:Hp) (a:Addr) (o:HO):Hp:=fun b=>if b=a then some o else H b
theorem ag {H:Hp}{a:Addr}{o:HO}:upd H a o a=some o:=by unfold upd;rw[aB rfl]
theorem ah {H:Hp}{a b:Addr}{o:HO} (h:b≠a):upd H a o b=H b:=by unfold upd;rw[au h]
theorem iQ {H:Hp}{a:Addr}{o u:HO}:upd (upd H a o) a u=upd H a u:=by
 funext b;unfold upd;split <;> rfl
theorem bY {H:Hp}{a b:Addr}{o u:HO} (h:H a=some o) (h':H b=some u) (d:o≠u):a≠b:=by
 intro e;subst e;rw[h]at h';exact d (gy h')
theorem aq {H:Hp}{a b:Addr}{o:HO} (h:H a=some o) (h':H b=none):a≠b:=by
 intro e;subst e;rw[h]at h';cases h'
def qX (h:Heap) (a:Addr) (items:Array Value):Prop:= ∃o,h.get? a=some o/\o.cls = .type "tuple" /\ ∃n,o.data = .seq items n/\o.dict=none
theorem qX.is {h:Heap}{a:Addr}{items:Array Value} (x:qX h a items):IsTup h a items:=let ⟨o,e,c,n,d,_⟩:=x;⟨o,e,c,n,d⟩
theorem qX.new (h:Heap) (items:Array Value):qX (h.push { cls:= .type "tuple",data:= .seq items }) h.objs.size items:=⟨_,bZ _ rfl,rfl,_,rfl,rfl⟩
section
variable (P:Program) (w:World)
def bu (H:Hp) (h:Heap) (a:Addr):HO->Prop
 |.lst xs=>xs.length<=sizeLine /\ ∃ (its:List Value) (n:Nat),Vals xs its/\h.get? a=some { cls:= .type "list",data:= .seq its.toArray n }
 |.tup xs=>xs.length<=sizeLine /\ ∃its:List Value,Vals xs its/\qX h a its.toArray
 |.dK kvs=>kvs.length<=sizeLine/\(a==sysModules)=false /\ ∃vs,KV kvs vs/\h.DictOf (bB P w) a vs
 |.dT kvs=>kvs.length<=sizeLine/\(a==sysModules)=false /\ ∃xs:List (List Key×Addr×Value),
   Paired (fun(p:List Key×V) (q:List Key×Addr×Value)=>p.1=q.1/\H q.2.1=some (.tup (p.1.map kV))/\RelV p.2 q.2.2) kvs xs /\
   ∃o es ep,h.get? a=some o/\o.ExactDict/\o.data = .dict es ep/\es.toList=xs.map (entryOfKey (tupleKind (bB P w)))/\(xs.map (·.1)).Nodup
 |.set S n=>h.SetOf (intKind P w) a S n
 |.ins C dx fs=>H dx=some (.own a)/\fs.length<=1000/\dx≠a/\h.get? a=some (PySem.W.instObj C dx) /\
   ∃mA,h.Ns1 dx mA/\(∀f,ib (fs.lookup f) (mA f))/\PySem.Within mA (fs.map (·.1))
 |.own _=>∃o,h.get? a=some o
 |.xd fs=>∃mA,h.Ns1 a mA /\ ∀f,ib (fs.lookup f) (mA f)
 |.xu lo hi=>∃t u v,h.get? a=some { cls:= .type "range",data:= .fields #[.int lo t,.int hi u,.int 1 v] }
 |.dE o u=>h.get? a=some o/\bu H h a u
 |.oh ps=>h.get? a=some { cls:= .none,data:= .fields ps }
 |.met f x=>h.get? a=some (PySem.W.methodObj (.ref f) (.ref x))
 |.ext φ=>φ h/\(∃o,h.get? a=some o) /\ ∀h1 h2:Heap,φ h1->(∀o,h1.get? a=some o->h2.get? a=some o)->φ h2
def cD (H:Hp) (h:Heap):Prop:= ∀a o,H a=some o->bu P w H h a o
end
section
variable{P:Program}{w:World}{H H':Hp}{h h':Heap}{a:Addr}{o:HO}
theorem bu.lt (x:bu P w H h a o):a < h.objs.size:=by
 cases o with
 |lst xs=>obtain⟨_,_,_,_,e⟩:=x;exact aR e
 |tup xs=>obtain⟨_,_,_,p⟩:=x;exact p.is.lt
 |dK kvs=>obtain⟨_,_,_,_,o,_,_,e,_⟩:=x;exact aR e
 |dT kvs=>obtain⟨_,_,_,_,o,_,_,e,_⟩:=x;exact aR e
 |set S n=>obtain⟨o,_,_,_,e,_⟩:=x;exact aR e
 |ins C dx fs=>obtain⟨_,_,_,e,_⟩:=x;exact aR e
 |own y=>obtain⟨_,e⟩:=x;exact aR e
 |xd fs=>obtain⟨_,⟨_,_,_,e,_⟩,_⟩:=x;exact aR e
 |xu lo hi=>obtain⟨_,_,_,e⟩:=x;exact aR e
 |dE ob u=>obtain⟨e,_⟩:=x;exact aR e
 |oh ps=>exact aR (show h.get? a=some _ from x)
 |met f y=>exact aR (show h.get? a=some _ from x)
 |ext φ=>obtain⟨_,⟨_,e⟩,_⟩:=x;exact aR e
theorem Paired.z5 {α β:Type}{F G:α->β->Prop}:∀ {w9:List α}{xb:List β},Paired F w9 xb->(∀a b,F a b->G a b)->Paired G w9 xb
 |_,_,.nil,_=>.nil
 |_,_,.cons r t,f=>.cons (f _ _ r) (Paired.z5 t f)
theorem Paired.imp' {α β:Type}{F G:α->β->Prop} (f:∀a b,F a b->G a b) {w9:List α}{xb:List β} (r:Paired F w9 xb):Paired G w9 xb:=Paired.z5 r f
theorem bu.ie (x:bu P w H h a o) (k:∀b u,(b=a\/H b=some (.own a))->h.get? b=some u->h'.get? b=some u)
  (ho:∀b,H b=some (.own a)->H' b=some (.own a)) (ht:∀b xs,H b=some (.tup xs)->H' b=some (.tup xs)):bu P w H' h' a o:=by
 induction o with
 |lst xs=>obtain⟨z,its,n,r,e⟩:=x;exact⟨z,its,n,r,k _ _ (.inl rfl) e⟩
 |tup xs=>obtain⟨z,its,r,ob,e,c⟩:=x;exact⟨z,its,r,ob,k _ _ (.inl rfl) e,c⟩
 |dK kvs=>obtain⟨z,y,vs,r,ob,es,ep,e,c⟩:=x;exact⟨z,y,vs,r,ob,es,ep,k _ _ (.inl rfl) e,c⟩
 |dT kvs =>
  obtain⟨z,y,xs,r,ob,es,ep,e,c⟩:=x;exact⟨z,y,xs,Paired.z5 r fun p q z=>⟨z.1,ht _ _ z.2.1,z.2.2⟩,ob,es,ep,k _ _ (.inl rfl) e,c⟩
 |set S n=>obtain⟨ob,es,ep,t,e,c⟩:=x;exact⟨ob,es,ep,t,k _ _ (.inl rfl) e,c⟩
 |ins C dx fs =>
  obtain⟨d,z,ne,e,mA,⟨od,es,ep,e2,c⟩,r⟩:=x;exact⟨ho _ d,z,ne,k _ _ (.inl rfl) e,mA,⟨od,es,ep,k _ _ (.inr d) e2,c⟩,r⟩
 |own y=>obtain⟨ob,e⟩:=x;exact⟨ob,k _ _ (.inl rfl) e⟩
 |xd fs=>obtain⟨mA,⟨od,es,ep,e,c⟩,r⟩:=x;exact⟨mA,⟨od,es,ep,k _ _ (.inl rfl) e,c⟩,r⟩
 |xu lo hi=>obtain⟨t,u,v,e⟩:=x;exact⟨t,u,v,k _ _ (.inl rfl) e⟩
 |dE ob u ih=>obtain⟨e,q⟩:=x;exact⟨k _ _ (.inl rfl) e,ih q⟩
 |oh ps =>
  have e:h.get? a=some { cls:= .none,data:= .fields ps }:=x;show h'.get? a=some { cls:= .none,data:= .fields ps };exact k a _ (.inl rfl) e
 |met f y =>
  have e:h.get? a=some (PySem.W.methodObj (.ref f) (.ref y)):=x;show h'.get? a=some (PySem.W.methodObj (.ref f) (.ref y));exact k a _ (.inl rfl) e
 |ext φ=>obtain⟨p,⟨o,e⟩,st⟩:=x;exact⟨st _ _ p fun o q=>k _ _ (.inl rfl) q,⟨o,k _ _ (.inl rfl) e⟩,st⟩
theorem cD.lt (x:cD P w H h) (e:H a=some o):a < h.objs.size:=(x a o e).lt
theorem cD.fresh (x:cD P w H h) (e:h.objs.size<=a):H a=none:=by
 cases q:H a with
 |none=>rfl
 |some u=>exact absurd (gj (x.lt q) e) (qo _)
theorem cD.kept (x:cD P w H h) (k:∀b u,h.get? b=some u->h'.get? b=some u):cD P w H h':=fun a o e =>
 (x a o e).ie (fun b u _ q=>k b u q) (fun _ q=>q) fun _ _ q=>q
theorem cD.laid (x:cD P w H h) (k:∀b u,h.get? b=some u->h'.get? b=some u) (hp:h.objs.size<=a) (new:bu P w (upd H a o) h' a o):cD P w (upd H a o) h':=fun b u e=>by
 have hn:=x.fresh hp
 by_cases hb:b=a
 ·subst hb;rw[ag]at e;cases e;exact new
 ·rw[ah hb]at e
  exact(x b u e).ie (fun c v _ q=>k c v q) (fun c q=>by rw[ah (aq q hn)];exact q) fun c xs q=>by rw[ah (aq q hn)];exact q
end
def Rd (H:Hp) (a:Addr) (u:HO):Prop:=H a=some u \/ ∃o,H a=some (.dE o u)
theorem Rd.ok {P:Program}{w:World}{H:Hp}{h:Heap}{a:Addr}{u:HO} (r:Rd H a u) (x:cD P w H h):bu P w H h a u:=by
 rcases r with r|⟨o,r⟩
 ·exact x a u r
 ·obtain⟨_,q⟩:=x a _ r
  exact q
def xv:Option HO->Prop
 |some (.lst _)=>True
 |some (.dK _)=>True
 |some (.dT _)=>True
 |some (.set _ _)=>True
 |some (.ins _ _ _)=>True
 |some (.ext _)=>True
 |_=>False
section
variable{P:Program}{w:World}{H:Hp}{h h':Heap}{x e:Addr}{o':HO}
theorem cD.write (ok:cD P w H h) (mu:xv (H x)) (he:e=x\/H e=some (.own x)) (k:∀b u,b≠e->h.get? b=some u->h'.get? b=some u) (uC:∃u,h'.get? e=some u)
  (new:bu P w (upd H x o') h' x o'):cD P w (upd H x o') h':=fun b u q=>by
 have Mw:∀c y,H c=some (.own y)->c≠x:=fun c y r z=>by subst z;rw[r]at mu;exact mu
 have Zz:∀c xs,H c=some (.tup xs)->c≠x:=fun c xs r z=>by subst z;rw[r]at mu;exact mu
 by_cases hb:b=x
 ·subst hb;rw[ag]at q;cases q;exact new
 ·rw[ah hb]at q
  by_cases rB:b=e
  ·have q':H b=some (.own x):=by
    rcases he with z|z
    ·exact absurd (rB.trans z) hb
    ·rw[rB];exact z
   rw[q]at q';cases q';obtain⟨v,hv⟩:=uC;exact⟨v,by rw[rB];exact hv⟩
  ·refine(ok b u q).ie (fun c v hc r=>k c v ?_ r) (fun c r=>by rw[ah (Mw c b r)];exact r) fun c xs r=>by rw[ah (Zz c xs r)];exact r
   rcases hc with rfl|hc
   ·exact rB
   ·rintro rfl
    rcases he with z|z
    ·exact Mw c b hc z
    ·rw[hc]at z;cases z;exact hb rfl
end
structure Un (fs ex:List Addr) (H H':Hp) (h h':Heap):Prop where
 keep:∀b o,h.get? b=some o->H b=none->b ∉ fs->b ∉ ex->h'.get? b=some o
 slot:∀b o,h.get? b=some o->H b=none->b∈fs->b ∉ ex -> ∃sl,h'.get? b=some { o with slots:=sl }
 free:∀b o,h.get? b=some o->H b=none->b ∉ ex->H' b=none
 there:∀b o,h.get? b=some o->b ∉ ex -> ∃o',h'.get? b=some o'
 jR:∀b xs,H b=some (.tup xs)->H' b=some (.tup xs)
 jt:∀b o u,H b=some (.dE o u)->H' b=some (.dE o u)
 jS:∀b ps,H b=some (.oh ps) -> ∃more,H' b=some (.oh (ps++more))
section
variable{fs fs' ex ex':List Addr}{H H1 H2:Hp}{h h1 h2 h':Heap}{a x e:Addr}{o:HO}
theorem Un.any (u:Un fs ex H H1 h h1) {b:Addr}{ob:Obj} (q:h.get? b=some ob) (n:H b=none) (hx:b ∉ ex):∃sl,h1.get? b=some { ob with slots:=sl }:=by
 by_cases hb:b∈fs
 ·exact u.slot b ob q n hb hx
 ·exact⟨ob.slots,u.keep b ob q n hb hx⟩
theorem Un.kept (k:∀b u,h.get? b=some u->h'.get? b=some u):Un fs ex H H h h':=
 ⟨fun b ob q _ _ _=>k b ob q,fun b ob q _ _ _=>⟨ob.slots,k b ob q⟩,fun _ _ _ n _=>n,fun b ob q _=>⟨ob,k b ob q⟩,fun _ _ q=>q,fun _ _ _ q=>q,fun _ ps q=>⟨#[],by rw[q];simp⟩⟩
theorem Un.refl:Un fs ex H H h h:=Un.kept fun _ _ q=>q
theorem Un.laid (k:∀b u,h.get? b=some u->h'.get? b=some u) (hp:h.objs.size<=a) (hn:H a=none):Un fs ex H (upd H a o) h h' where
 keep:=fun b u q _ _ _=>k b u q
 slot:=fun b u q _ _ _=>⟨u.slots,k b u q⟩
 free:=fun b u q n _=>by rw[ah (bj (gj (aR q) hp))];exact n
 there:=fun b u q _=>⟨u,k b u q⟩
 jR:=fun b xs q=>by rw[ah (aq q hn)];exact q
 jt:=fun b u xs q=>by rw[ah (aq q hn)];exact q
 jS:=fun b ps q=>⟨#[],by rw[ah (aq q hn),q];simp⟩
theorem Un.write (mu:xv (H x)) (he:e=x\/H e=some (.own x)) (k:∀b u,b≠e->h.get? b=some u->h'.get? b=some u) (uC:∃u,h'.get? e=some u):Un fs ex H (upd H x o) h h':=by
 have hx:∀b,H b=none->b≠x:=fun b n z=>by subst z;rw[n]at mu;exact mu
 have hb:∀b,H b=none->b≠e:=fun b n z=>by
  subst z;rcases he with r|r
  ·exact hx b n r
  ·rw[n]at r;cases r
 have hm:∀b u,H b=some u -> ¬ xv (some u)->b≠x:=fun b u q nm z=>by subst z;rw[q]at mu;exact nm mu
 refine⟨fun b u q n _ _=>k b u (hb b n) q,fun b u q n _ _=>⟨u.slots,k b u (hb b n) q⟩,fun b u q n _=>by rw[ah (hx b n)];exact n,fun b u q _=>?_,
  fun b xs q=>by rw[ah (hm b _ q fun z=>z)];exact q,fun b u xs q=>by rw[ah (hm b _ q fun z=>z)];exact q,fun b ps q=>⟨#[],by rw[ah (hm b _ q fun z=>z),q];simp⟩⟩
 by_cases rB:b=e
 ·subst rB;exact uC
 ·exact⟨u,k b u rB q⟩
end
def i3 (h:Heap) (H:Hp):List Addr:=(List.range h.objs.size).filter fun a=>(H a).isSome
def n4 (h:Heap) (H:Hp):Heap:=PySem.W.hideAll h (i3 h H)
theorem Ut (h:Heap) (H:Hp):(n4 h H).objs.size=h.objs.size:=PySem.W.hideAll_size _ _
theorem Vi {h:Heap}{H:Hp}{b:Addr}{o:Obj} (e:h.get? b=some o) (n:H b=none):(n4 h H).get? b=some o:=
 PySem.W.hideAll_get _ e fun hm=>by
  have q:(H b).isSome=true:=(iC.mp hm).2;rw[n]at q;simp at q
theorem Wc {h:Heap}{H:Hp}{b:Addr}{o:Obj} (e:(n4 h H).get? b=some o):h.get? b=some o/\H b=none:=by
 have e':h.get? b=some o:=PySem.W.of_hideAll (i3 h H) e;refine⟨e',?_⟩;cases q:H b with
 |none=>rfl
 |some x =>
  have hm:b∈i3 h H:=iC.mpr ⟨nC.mpr (aR e'),by simp[q]⟩
  have z:(n4 h H).get? b=none:=PySem.W.hideAll_none (i3 h H) hm;rw[z]at e;cases e
def C1 (g h:Heap) (L:Addr):List (Addr×Obj):=(List.range h.objs.size).filterMap fun a=>if a=L\/(g.get? a).isSome=true then none else (h.get? a).map fun o=>(a,o)
theorem IW {g h:Heap}{L a:Addr}{o:Obj} (h1:a≠L) (h2:g.get? a=none) (h3:h.get? a=some o):(a,o)∈C1 g h L:=
 qp.mpr ⟨a,nC.mpr (aR h3),by simp[h1,h2,h3]⟩
theorem BY {g h:Heap}{L:Addr}{p:Addr×Obj} (hp:p∈C1 g h L):p.1≠L/\g.get? p.1=none/\h.get? p.1=some p.2:=by
 obtain⟨b,_,e⟩:=qp.mp hp;split at e
 ·cases e
 ·rename_i hn
  cases q:h.get? b with
  |none=>rw[q]at e;simp at e
  |some u =>
   rw[q]at e;simp only[By,Option.some.injEq]at e;subst e;refine⟨fun z=>hn (.inl z),?_,q⟩;show g.get? b=none;cases r:g.get? b with
   |none=>rfl
   |some v=>exact(hn (.inr (by simp[r]))).elim
theorem Vj {g h:Heap}{L:Addr}:News g L h (C1 g h L):=fun p hp=>let ⟨a,b,c⟩:=BY hp;⟨c,a,b⟩
structure Mod (K:PySem.W.Frag) (mg:Str->Option Value) (base:Heap):Prop where
 iq:K.In base
 glob:base.Ns mainGlobals mg
 blt:∃mb,base.Ns builtinsNs mb /\ ∀x:Str,x ≠ "__name__" -> mb x=bootBuiltins x
 nolimit:base.NoLimit
structure Cx where
 prog:Program
 w:World
 K:PySem.W.Frag
 mg:Str->Option Value
 base:Heap
 A:Around
 N:List Str
 cC:Shared
 iW:Hp
 env:Env
 outer:List Env
 stack:List Env
 ex:List Addr
 fn:Str->Bool
 calm:Bool
 pn:List (Addr×Obj)
 xe:Value->Shared->Prop
def cH (l:List Env):List Addr:=l.filterMap (·.frame)
abbrev Cx.fs (X:Cx):List Addr:=cH X.outer
def EJ (sc:Scope) (x:Str):Prop:=sc.names.lookup x=some .local\/sc.names.lookup x=some .cell\/sc.names.lookup x=some .free
def Loc (sc:Scope) (x:Str):Prop:=sc.names.lookup x=some .local\/sc.names.lookup x=some .cell
def Look (env:Env) (h:Heap) (m:Str->Option Value) (x:Str) (u:Value):Prop:=
 (env.kindOf x=some .local/\m x=some u)\/((env.kindOf x=some .cell\/env.kindOf x=some .free) /\ ∃c,env.cells.lookup x=some c/\h.IsCell c (some u))
structure Cx.Ok (X:Cx):Prop where
 mod:Mod X.K X.mg X.base
 kind:X.env.scope.kind = .function
 glob:X.env.globals=mainGlobals
 blt:X.env.builtins=builtinsNs
 above:X.cC.heap.objs.size<=X.env.locals
 inj:∀x y c,X.env.cells.lookup x=some c->X.env.cells.lookup y=some c->x=y
 has:∀x,(X.env.kindOf x=some .cell\/X.env.kindOf x=some .free) -> ∃c,X.env.cells.lookup x=some c
 oi:∀x c,X.fn x=true->X.env.cells.lookup x=some c->X.cC.heap.objs.size<=c
 hd:X.calm=true->X.A.handled=none
 frames:X.A.frames=some X.stack
 lD:X.stack=X.outer\/(X.stack=X.env::X.outer/\X.env.frame=some X.env.locals)
 m3:∀b∈X.ex,b≠X.env.locals /\ ∀x c,X.env.cells.lookup x=some c->c≠b
 bs:∀b o,X.base.get? b=some o->X.cC.heap.get? b=some o/\X.iW b=none
 jV:X.base.objs.size<=X.cC.heap.objs.size
 n5:∀b o,X.base.get? b=some o->b ∉ X.ex
 mX:∀b∈X.ex,b ∉ X.fs
 fZ:X.cC.heap.FunFrames X.base X.outer
 kr:∀b∈X.fs,X.iW b=none
structure Inv (X:Cx) (pins:List (Addr×Obj)) (σ:List (Option V)) (H:Hp) (s:Shared):Prop where
 ok:X.Ok
 os:s.os=X.cC.os
 bare:AllBare s.gens
 base:Un X.fs X.ex X.iW H X.cC.heap s.heap
 loc:∃m,s.heap.Ns X.env.locals m /\ ∀ (i:Nat) (x:Str) (v:V),X.N[i]? = some x->σ[i]? = some (some v)->EJ X.env.scope x -> ∃u,RelV v u/\Look X.env s.heap m x u
 cell:∀x c,X.env.cells.lookup x=some c -> ∃v,s.heap.IsCell c v
 free:H X.env.locals=none
 gT:∀x c,X.env.cells.lookup x=some c->H c=none
 pin:∀p∈X.pn++pins,s.heap.get? p.1=some p.2/\H p.1=none/\p.1≠X.env.locals/\p.1 ∉ X.fs /\ ∀v,p.2.data ≠ .cell v
 ar:cD X.prog X.w H s.heap
 len:σ.length=X.N.length
section
variable{X:Cx}{pins:List (Addr×Obj)}{σ:List (Option V)}{H H':Hp}{s:Shared}{h':Heap}
theorem Cx.Ok.qY (ok:X.Ok) {b:Addr}{o:Obj} (e:X.base.get? b=some o):b ∉ X.fs:=fun hb=>by
 have:=(ok.fZ.mem hb).1;rw[e]at this;cases this
theorem Inv.bs (I:Inv X pins σ H s):∀b o,X.base.get? b=some o->s.heap.get? b=some o/\H b=none:=fun b o e =>
 ⟨I.base.keep b o (I.ok.bs b o e).1 (I.ok.bs b o e).2 (I.ok.qY e) (I.ok.n5 b o e),I.base.free b o (I.ok.bs b o e).1 (I.ok.bs b o e).2 (I.ok.n5 b o e)⟩
theorem Inv.bk (I:Inv X pins σ H s):∀b o,X.base.get? b=some o->s.heap.get? b=some o:=fun b o e=>(I.bs b o e).1
theorem Inv.mod (I:Inv X pins σ H s):Mod X.K X.mg X.base:=I.ok.mod
theorem Inv.bq (I:Inv X pins σ H s):X.K.In s.heap:=I.ok.mod.iq.keeps I.bk
theorem Inv.lt (I:Inv X pins σ H s):X.env.locals < s.heap.objs.size:=let ⟨_,hn,_⟩:=I.loc;hn.lt
theorem Inv.sz (I:Inv X pins σ H s):X.cC.heap.objs.size<=s.heap.objs.size:=dU I.ok.above (vo I.lt)
theorem Inv.ZA (I:Inv X pins σ H s) {a:Addr} (h:s.heap.objs.size<=a):a ∉ X.fs:=fun hb=>by
 obtain⟨_,o,ho,_⟩:=I.ok.fZ.mem hb;exact absurd (gj (aR ho) (dU I.sz h)) (qo _)
theorem Inv.lE (I:Inv X pins σ H s):∀x c,X.env.cells.lookup x=some c->c≠X.env.locals:=fun x c e z=>by
 obtain⟨v,o,ho,hd⟩:=I.cell x c e;obtain⟨m,⟨o',es,ep,gG,xw,_⟩,_⟩:=I.loc;rw[z,gG]at ho;cases ho;rw[xw]at hd;cases hd
theorem Inv.fZ (I:Inv X pins σ H s):s.heap.FunFrames X.base X.outer:=by
 have all:∀ (l:List Env),(∀b∈cH l,b∈X.fs)->X.cC.heap.FunFrames X.base l->s.heap.FunFrames X.base l:=by
  intro l
  induction l with
  |nil=>intro _ _;trivial
  |cons env r ih =>
   intro hs hl;obtain⟨hk,⟨L,o,hf,hn,ho,hd⟩,hr⟩:=hl;have hL:L∈X.fs:=hs L (by unfold cH;rw[QL,hf];exact aZ)
   obtain⟨sl,e⟩:=I.base.slot L o ho (I.ok.kr L hL) hL fun z=>I.ok.mX L z hL;exact⟨hk,⟨L,_,hf,hn,e,hd⟩,ih (fun b hb=>hs b (by unfold cH;rw[QL,hf];exact bJ _ hb)) hr⟩
 exact all X.outer (fun _ hb=>hb) I.ok.fZ
theorem Inv.stack (I:Inv X pins σ H s):s.heap.FunFrames X.base X.stack:=by
 rcases I.ok.lD with e|⟨e,hf⟩
 ·rw[e];exact I.fZ
 ·rw[e]
  obtain⟨m,hn,_⟩:=I.loc;refine .cons (by rw[I.ok.kind];decide) hf hn ?_ I.fZ
  exact Bz (dU I.ok.jV I.ok.above)
theorem Inv.wm (I:Inv X pins σ H s):∀b∈cH X.stack,b∈X.env.locals::X.fs:=fun b hb=>by
 rcases I.ok.lD with e|⟨e,hf⟩
 ·rw[e]at hb;exact bJ _ hb
 ·rw[e]at hb
  unfold cH at hb;rw[QL,hf]at hb;exact hb
theorem Inv.zD (I:Inv X pins σ H s):∀b∈cH X.stack,H b=none:=fun b hb=>by
 rcases a9.mp (I.wm b hb) with e|hb
 ·rw[e];exact I.free
 ·obtain⟨_,o,ho,_⟩:=I.ok.fZ.mem hb
  exact I.base.free b o ho (I.ok.kr b hb) fun z=>I.ok.mX b z hb
theorem Inv.step {g':Array GenState}{t':Nat}{d':Drawn}{ch:List Addr} (I:Inv X pins σ H s)
  (m4:∀b∈ch,(b∈X.ex\/X.cC.heap.objs.size<=b)/\b≠X.env.locals/\(∀x c,X.env.cells.lookup x=some c->c≠b) /\ ∀p∈X.pn++pins,p.1≠b)
  (keep:∀b o,b≠X.env.locals->b ∉ X.fs->b ∉ ch->s.heap.get? b=some o->H b=none->h'.get? b=some o)
  (slot:∀b o,b≠X.env.locals->b∈X.fs->b ∉ ch->s.heap.get? b=some o->H b=none -> ∃sl,h'.get? b=some { o with slots:=sl }) (free:∀b o,b ∉ ch->s.heap.get? b=some o->H b=none->H' b=none)
  (there:∀b o,b ∉ ch->s.heap.get? b=some o -> ∃o',h'.get? b=some o')
  (jR:∀b xs,H b=some (.tup xs)->H' b=some (.tup xs)) (jt:∀b o u,H b=some (.dE o u)->H' b=some (.dE o u)) (jS:∀b ps,H b=some (.oh ps) -> ∃more,H' b=some (.oh (ps++more)))
  (ns:∀m,s.heap.Ns X.env.locals m->h'.Ns X.env.locals m) (ar:cD X.prog X.w H' h') (hg:AllBare g') :
  Inv X pins σ H' { s with heap:=h',gens:=g',drawn:=d',toks:=t' }:=by
 have xx:∀b o,X.cC.heap.get? b=some o->b≠X.env.locals:=fun b o e=>bj (gj (aR e) I.ok.above);have Am:∀b o,X.cC.heap.get? b=some o->b ∉ X.ex->b ∉ ch:=fun b o e hx hb=>by
  rcases (m4 b hb).1 with z|z
  ·exact hx z
  ·exact absurd (gj (aR e) z) (qo _)
 have cellK:∀x c,X.env.cells.lookup x=some c -> ∀v,s.heap.IsCell c v->h'.IsCell c v:=fun x c e v ⟨o,ho,hd⟩=>by
  have gu:c ∉ ch:=fun z=>(m4 c z).2.2.1 x c e rfl
  by_cases hc:c∈X.fs
  ·obtain⟨sl,q⟩:=slot c o (I.lE x c e) hc gu ho (I.gT x c e)
   exact⟨_,q,hd⟩
  ·exact⟨o,keep c o (I.lE x c e) hc gu ho (I.gT x c e),hd⟩
 refine⟨I.ok,I.os,hg,⟨fun b o e n hb hx=>?_,fun b o e n hb hx=>?_,fun b o e n hx=>?_,fun b o e hx=>?_,fun b xs e=>jR b xs (I.base.jR b xs e),fun b o xs e=>jt b o xs (I.base.jt b o xs e),fun b ps e=>?_⟩,?_,fun x c e=>?_,?_,fun x c e=>?_,fun p hp=>?_,ar,I.len⟩
 ·exact keep b o (xx b o e) hb (Am b o e hx) (I.base.keep b o e n hb hx) (I.base.free b o e n hx)
 ·obtain⟨sl,e1⟩:=I.base.slot b o e n hb hx
  obtain⟨xy,e2⟩:=slot b _ (xx b o e) hb (Am b o e hx) e1 (I.base.free b o e n hx);exact⟨xy,e2⟩
 ·obtain⟨o',e1⟩:=I.base.there b o e hx
  exact free b o' (Am b o e hx) e1 (I.base.free b o e n hx)
 ·obtain⟨o',e1⟩:=I.base.there b o e hx
  exact there b o' (Am b o e hx) e1
 ·obtain⟨m1,e1⟩:=I.base.jS b ps e
  obtain⟨m2,e2⟩:=jS b _ e1;exact⟨m1++m2,by rw[e2,Array.append_assoc]⟩
 ·obtain⟨m,hn,hl⟩:=I.loc
  refine⟨m,ns m hn,fun i x v e1 e2 e3=>?_⟩;obtain⟨u,r,l⟩:=hl i x v e1 e2 e3;refine⟨u,r,?_⟩;rcases l with l|⟨k,c,e,z⟩
  ·exact .inl l
  ·exact .inr ⟨k,c,e,cellK x c e _ z⟩
 ·obtain⟨v,z⟩:=I.cell x c e
  exact⟨v,cellK x c e v z⟩
 ·obtain⟨m,⟨o,_,_,ho,_⟩,_⟩:=I.loc
  exact free _ o (fun z=>(m4 _ z).2.1 rfl) ho I.free
 ·obtain⟨v,o,ho,hd⟩:=I.cell x c e
  exact free c o (fun z=>(m4 c z).2.2.1 x c e rfl) ho (I.gT x c e)
 ·obtain⟨e,n,ne,nf,d⟩:=I.pin p hp
  have gu:p.1 ∉ ch:=fun z=>(m4 p.1 z).2.2.2 p hp rfl;exact⟨keep p.1 p.2 ne nf gu e n,free p.1 p.2 gu e n,ne,nf,d⟩
theorem Inv.un {t':Nat} (I:Inv X pins σ H s) (u:Un X.fs [] H H' s.heap h') (ar:cD X.prog X.w H' h'):Inv X pins σ H' { s with heap:=h',toks:=t' }:=by
 obtain⟨m,⟨o,es,ep,ho,r⟩,_⟩:=id I.loc;obtain⟨sl,hL⟩:=u.any ho I.free (by simp)
 exact I.step (g':=s.gens) (d':=s.drawn) (ch:= []) (fun _ z=>nomatch z) (fun b o _ hb _ e n=>u.keep b o e n hb (by simp)) (fun b o _ hb _ e n=>u.slot b o e n hb (by simp)) (fun b o _ e n=>u.free b o e n (by simp)) (fun b o _ e=>u.there b o e (by simp)) u.jR u.jt u.jS (fun m' hm=>by
  obtain⟨o',gV,EK,gG,r'⟩:=hm;rw[ho]at gG;cases gG;exact⟨_,gV,EK,hL,r'⟩) ar I.bare
theorem Inv.call {g':Array GenState}{t':Nat}{d':Drawn}{ch:List Addr} (I:Inv X pins σ H s) (u:Un (cH X.stack) ch H H' s.heap h') (ar:cD X.prog X.w H' h') (hg:AllBare g')
  (m4:∀b∈ch,(b∈X.ex\/X.cC.heap.objs.size<=b)/\b≠X.env.locals/\(∀x c,X.env.cells.lookup x=some c->c≠b) /\ ∀p∈X.pn++pins,p.1≠b) :
  Inv X pins σ H' { s with heap:=h',gens:=g',drawn:=d',toks:=t' }:=by
 obtain⟨m,⟨o,es,ep,ho,r⟩,_⟩:=id I.loc;obtain⟨sl,hL⟩:=u.any ho I.free fun z=>(m4 _ z).2.1 rfl;exact I.step (ch:=ch) m4 (fun b o hL hb hc e n=>u.keep b o e n (fun z=>(a9.mp (I.wm b z)).elim hL hb) hc) (fun b o _ _ hc e n=>u.any e n hc) (fun b o hc e n=>u.free b o e n hc) (fun b o hc e=>u.there b o e hc) u.jR u.jt u.jS (fun m' hm=>by
  obtain⟨o',gV,EK,gG,r'⟩:=hm;rw[ho]at gG;cases gG;exact⟨_,gV,EK,hL,r'⟩) ar hg
theorem Inv.turned {t':Nat}{it:Addr} (I:Inv X pins σ H s) (k:∀b o,b≠it->s.heap.get? b=some o->h'.get? b=some o) (hn:H it=none) (hL:it≠X.env.locals)
  (h1:it∈X.ex\/X.cC.heap.objs.size<=it) (h2:∀x c,X.env.cells.lookup x=some c->c≠it) (h3:∀p∈X.pn++pins,p.1≠it):Inv X pins σ H { s with heap:=h',toks:=t' }:=by
 have NM:∀b u,H b=some u->b≠it:=fun b u e z=>by rw[z,hn]at e;cases e
 refine I.step (g':=s.gens) (d':=s.drawn) (ch:= [it]) (fun b hb=>?_) (fun b o _ _ hc e _=>k b o (fun z=>hc (by simp[z])) e) (fun b o _ _ hc e _=>⟨o.slots,k b o (fun z=>hc (by simp[z])) e⟩) (fun _ _ _ _ n=>n)
  (fun b o hc e=>⟨o,k b o (fun z=>hc (by simp[z])) e⟩) (fun _ _ e=>e) (fun _ _ _ e=>e) (fun b ps e=>⟨#[],by rw[e];simp⟩) (fun m hm=>?_) (fun b u e=>?_) I.bare
 ·have e:b=it:=by simpa using hb
  subst e;exact⟨h1,hL,h2,h3⟩
 ·obtain⟨o,es,ep,ho,r⟩:=hm
  exact⟨o,es,ep,k _ o (aQ hL) ho,r⟩
 ·refine(I.ar b u e).ie (fun c v hc q=>k c v ?_ q) (fun _ q=>q) fun _ _ q=>q
  rcases hc with z|z
  ·rw[z];exact NM b u e
  ·exact NM c _ z
theorem Inv.tok (I:Inv X pins σ H s) (t:Nat):Inv X pins σ H { s with toks:=t }:=I.un (h':=s.heap) (t':=t) Un.refl I.ar
theorem Inv.kept {t':Nat} (I:Inv X pins σ H s) (k:∀b u,s.heap.get? b=some u->h'.get? b=some u):Inv X pins σ H { s with heap:=h',toks:=t' }:=I.un (Un.kept k) (I.ar.kept k)
theorem Inv.laid {a:Addr}{o:HO}{t':Nat} (I:Inv X pins σ H s) (k:∀b u,s.heap.get? b=some u->h'.get? b=some u) (hp:s.heap.objs.size<=a) (new:bu X.prog X.w (upd H a o) h' a o) :
  Inv X pins σ (upd H a o) { s with heap:=h',toks:=t' }:=I.un (Un.laid k hp (I.ar.fresh hp)) (I.ar.laid k hp new)
theorem Inv.write {x e:Addr}{o:HO}{t':Nat} (I:Inv X pins σ H s) (mu:xv (H x)) (he:e=x\/H e=some (.own x)) (k:∀b u,b≠e->s.heap.get? b=some u->h'.get? b=some u) (uC:∃u,h'.get? e=some u)
  (new:bu X.prog X.w (upd H x o) h' x o):Inv X pins σ (upd H x o) { s with heap:=h',toks:=t' }:=I.un (Un.write mu he k uC) (I.ar.write mu he k uC new)
theorem Inv.K5 {wJ:List (Addr×Obj)} (I:Inv X pins σ H s) (h:∀p∈wJ,s.heap.get? p.1=some p.2/\H p.1=none/\p.1≠X.env.locals/\p.1 ∉ X.fs /\ ∀v,p.2.data ≠ .cell v):Inv X wJ σ H s:=
 ⟨I.ok,I.os,I.bare,I.base,I.loc,I.cell,I.free,I.gT,fun p hp=>(fb.mp hp).elim (fun z=>I.pin p (lR _ z)) (h p),I.ar,I.len⟩
theorem CC {N:List Str} (hN:N.Nodup) {i j:Nat}{x:Str} (a:N[i]? = some x) (b:N[j]? = some x):i=j:=by
 obtain⟨h1,e1⟩:=bU.mp a;obtain⟨h2,e2⟩:=bU.mp b;exact(QM hN).mp (e1.trans e2.symm)
theorem JB {M:Model}{A:Around}{E:Value->Shared->Prop}{i:Nat}{x:Str}{v:V}{u:Value}{Q:Unit->Shared->Prop} (I:Inv X pins σ H s) (hN:X.N.Nodup) (hi:X.N[i]? = some x) (hx:Loc X.env.scope x) (r:RelV v u)
  (h:∀s',Inv X pins (σ.set i (some v)) H s'->(∃a,Heap.SameBut a s.heap s'.heap/\(a=X.env.locals\/X.env.cells.lookup x=some a))->Q () s') (hf:X.fn x=true\/X.env.scope.names.lookup x=some .local:=by first|exact .inl rfl|exact .inr rfl|assumption):wpAny M A (storeName X.env x u) Q E s:=by
 obtain⟨m,hn,hl⟩:=id I.loc;have mY:(X.env.scope.kind == .class || (X.env.scope.kind == .module && X.env.locals != X.env.globals))=false:=by rw[I.ok.kind];rfl
 have Mx:i < σ.length:=by rw[I.len];exact(bU.mp hi).1
 have lE:=I.lE;have tracked:∀ {a:Addr}{h':Heap},(∃o,s.heap.get? a=some o/\H a=none)->Heap.SameBut a s.heap h'->cD X.prog X.w H h':=fun {a h'} ha hs b ob e=>by
  obtain⟨_,_,wK⟩:=ha;refine(I.ar b ob e).ie (fun c w' hc q=>(hs.2 c ?_).trans q) (fun _ q=>q) fun _ _ q=>q;rintro rfl;rcases hc with rfl|hc
  ·rw[wK]at e;cases e
  ·rw[wK]at hc;cases hc
 rcases hx with hk|hk
 ·refine wpAny_storeName_local hk hn (fun h' jA hs=>?_) mY
  obtain⟨oL,_,_,NN,_⟩:=id hn;refine h _ ⟨I.ok,I.os,I.bare,⟨fun b o e n hb hx=>?_,fun b o e n hb hx=>?_,I.base.free,fun b o e hx=>?_,I.base.jR,I.base.jt,I.base.jS⟩,⟨_,jA,fun j y v' e1 e2 e3=>?_⟩,fun y c e=>?_,I.free,I.gT,fun p hp=>?_,tracked ⟨oL,NN,I.free⟩ hs,by simpa using I.len⟩ ⟨_,hs,.inl rfl⟩
  ·exact(hs.2 b (bj (gj (aR e) I.ok.above))).trans (I.base.keep b o e n hb hx)
  ·obtain⟨sl,e1⟩:=I.base.slot b o e n hb hx
   exact⟨sl,(hs.2 b (bj (gj (aR e) I.ok.above))).trans e1⟩
  ·obtain⟨o',e1⟩:=I.base.there b o e hx
   exact⟨o',(hs.2 b (bj (gj (aR e) I.ok.above))).trans e1⟩
  ·by_cases hj:j=i
   ·subst hj
    rw[hi]at e1;cases e1;rw[QN Mx]at e2;cases e2
    exact⟨u,r,.inl ⟨hk,by simp⟩⟩
   ·rw[QO (aQ hj)]at e2
    obtain⟨u',r',q⟩:=hl j y v' e1 e2 e3;refine⟨u',r',?_⟩;rcases q with⟨k,e⟩|⟨k,c,e,z⟩
    ·refine .inl ⟨k,?_⟩
     have:y≠x:=fun e=>hj (CC hN e1 (e ▸ hi));simp[this,e]
    ·exact .inr ⟨k,c,e,z.sameBut hs (lE y c e)⟩
  ·obtain⟨w',z⟩:=I.cell y c e
   exact⟨w',z.sameBut hs (lE y c e)⟩
  ·obtain⟨e,n,ne,nf,d⟩:=I.pin p hp
   exact⟨(hs.2 p.1 ne).trans e,n,ne,nf,d⟩
 ·have EL:X.fn x=true:=by
   rcases hf with z|z
   ·exact z
   ·rw[z]at hk;cases hk
  obtain⟨c,hc⟩:=I.ok.has x (.inl hk);obtain⟨w',z⟩:=I.cell x c hc;refine wpAny_storeName_cell I.ok.kind hk hc z (fun h' oj hs=>?_);obtain⟨oc,NO,ZC⟩:=id z;refine h { s with heap:=h' } ⟨I.ok,I.os,I.bare,⟨fun b o e n hb hx=>?_,fun b o e n hb hx=>?_,I.base.free,fun b o e hx=>?_,I.base.jR,I.base.jt,I.base.jS⟩,⟨m,hn.sameBut hs (aQ (lE x c hc)),fun j y v' e1 e2 e3=>?_⟩,fun y c' e=>?_,I.free,I.gT,fun p hp=>?_,tracked ⟨oc,NO,I.gT x c hc⟩ hs,by simpa using I.len⟩ ⟨c,hs,.inr hc⟩
  ·exact(hs.2 b (bj (gj (aR e) (I.ok.oi x c EL hc)))).trans (I.base.keep b o e n hb hx)
  ·obtain⟨sl,e1⟩:=I.base.slot b o e n hb hx
   exact⟨sl,(hs.2 b (bj (gj (aR e) (I.ok.oi x c EL hc)))).trans e1⟩
  ·obtain⟨o',e1⟩:=I.base.there b o e hx
   exact⟨o',(hs.2 b (bj (gj (aR e) (I.ok.oi x c EL hc)))).trans e1⟩
  ·by_cases hj:j=i
   ·subst hj
    rw[hi]at e1;cases e1;rw[QN Mx]at e2;cases e2
    exact⟨u,r,.inr ⟨.inl hk,c,hc,oj⟩⟩
   ·rw[QO (aQ hj)]at e2
    obtain⟨u',r',q⟩:=hl j y v' e1 e2 e3;refine⟨u',r',?_⟩;rcases q with q|⟨k,c',e,z'⟩
    ·exact .inl q
    ·refine .inr ⟨k,c',e,z'.sameBut hs ?_⟩
     rintro rfl;exact hj (CC hN e1 (I.ok.inj _ _ _ e hc ▸ hi))
  ·by_cases NP:c'=c
   ·subst NP;exact⟨_,oj⟩
   ·obtain⟨w2,z2⟩:=I.cell y c' e
    exact⟨w2,z2.sameBut hs NP⟩
  ·obtain⟨e,n,ne,nf,d⟩:=I.pin p hp
   refine⟨(hs.2 p.1 ?_).trans e,n,ne,nf,d⟩;intro q;rw[q,NO]at e;have q':oc=p.2:=gy e;exact d w' (by rw[<-q'];exact ZC)
theorem sN {M:Model}{A:Around}{E:Value->Shared->Prop}{i:Nat}{x:Str}{v:V}{u:Value}{Q:Unit->Shared->Prop} (I:Inv X pins σ H s) (hN:X.N.Nodup) (hi:X.N[i]? = some x) (hx:Loc X.env.scope x) (r:RelV v u)
  (h:∀s',Inv X pins (σ.set i (some v)) H s'->Q () s') (hf:X.fn x=true\/X.env.scope.names.lookup x=some .local:=by first|exact .inl rfl|exact .inr rfl|assumption):wpAny M A (storeName X.env x u) Q E s:=
 JB I hN hi hx r (fun s' I' _=>h s' I') hf
theorem Inv.tL {s':Shared}{ch:List Addr} (I:Inv X pins σ H s) (ho:s'.os=s.os) (u:Un (cH X.stack) ch H H' s.heap s'.heap) (ar:cD X.prog X.w H' s'.heap) (hg:AllBare s'.gens)
  (m4:∀b∈ch,(b∈X.ex\/X.cC.heap.objs.size<=b)/\b≠X.env.locals/\(∀x c,X.env.cells.lookup x=some c->c≠b) /\ ∀p∈X.pn++pins,p.1≠b):Inv X pins σ H' s':=by
 obtain⟨h',g',d',t',o'⟩:=s';have e:o'=s.os:=ho;subst e;exact I.call (g':=g') (t':=t') (d':=d') u ar hg m4
end
abbrev XK:=Value->Option Addr->Hp->Prop
abbrev St:=List (Option V)
abbrev VK:=V->Hp->Prop
abbrev TE:=St->Hp->VK->Prop
abbrev TT:=St->Hp->(Bool->Hp->Prop)->Prop
abbrev TA:=St->Hp->(List V->Hp->Prop)->Prop
structure Ends where
 nx:St->Hp->Prop
 rt:VK
 bk:St->Hp->Prop:=fun _ _=>False
 ct:St->Hp->Prop:=fun _ _=>False
abbrev TS:=Ends->St->Hp->Prop
def EP (X:Cx) (pins:List (Addr×Obj)) (σ:St) (Q:VK) (u:Value) (s':Shared):Prop:= ∃v H',Inv X pins σ H' s'/\RelV v u/\Q v H'
def TP (X:Cx) (pins:List (Addr×Obj)) (σ:St) (Q:Bool->Hp->Prop) (b:Bool) (s':Shared):Prop:= ∃H',Inv X pins σ H' s'/\Q b H'
def AP (X:Cx) (pins:List (Addr×Obj)) (σ:St) (Q:List V->Hp->Prop) (us:List Value) (s':Shared):Prop:= ∃vs H',Inv X pins σ H' s'/\Vals vs us/\Q vs H'
def SP (X:Cx) (pins:List (Addr×Obj)) (D:Ends) (f:Flow) (s':Shared):Prop:=
 match f with
 |.next=>∃aD H',Inv X pins aD H' s'/\D.nx aD H'
 |.brk=>∃aD H',Inv X pins aD H' s'/\D.bk aD H'
 |.cont=>∃aD H',Inv X pins aD H' s'/\D.ct aD H'
 |.ret u=>∃v aD H',Inv X pins aD H' s'/\RelV v u/\D.rt v H'
def PE (X:Cx) (e:Expr) (t:TE):Prop:=
 ∀ (pins:List (Addr×Obj)) (s:Shared) (σ:St) (H:Hp) (Q:VK),Inv X pins σ H s->t σ H Q->wpAny (model X.prog X.w) X.A (eval e X.env) (EP X pins σ Q) X.xe s
def PT (X:Cx) (e:Expr) (t:TT):Prop:=
 ∀ (pins:List (Addr×Obj)) (s:Shared) (σ:St) (H:Hp) (Q:Bool->Hp->Prop),Inv X pins σ H s->t σ H Q->wpAny (model X.prog X.w) X.A (isTrue e X.env (eval e X.env)) (TP X pins σ Q) X.xe s
def PW (X:Cx) (e:Expr) (t:TT):Prop:=
 ∀ (whole:Sem Value) (pins:List (Addr×Obj)) (s:Shared) (σ:St) (H:Hp) (Q:Bool->Hp->Prop),Inv X pins σ H s->t σ H Q->wpAny (model X.prog X.w) X.A (isTrue e X.env whole) (TP X pins σ Q) X.xe s
theorem PW.pt {X:Cx}{e:Expr}{t:TT} (h:PW X e t):PT X e t:=h _
def PA (X:Cx) (es:List Expr) (t:TA):Prop:=
 ∀ (pos:Pos) (pins:List (Addr×Obj)) (s:Shared) (σ:St) (H:Hp) (Q:List V->Hp->Prop),Inv X pins σ H s->t σ H Q->wpAny (model X.prog X.w) X.A (spliced (backTo pos (starEach es X.env))) (AP X pins σ Q) X.xe s
def PS (X:Cx) (st:Stmt) (t:TS):Prop:=
 ∀ (pins:List (Addr×Obj)) (s:Shared) (σ:St) (H:Hp) (D:Ends),Inv X pins σ H s->t D σ H->wpAny (model X.prog X.w) X.A (exec st X.env) (SP X pins D) X.xe s
def fB (X:Cx) (st:List Stmt) (t:TS):Prop:=
 ∀ (pins:List (Addr×Obj)) (s:Shared) (σ:St) (H:Hp) (D:Ends),Inv X pins σ H s->t D σ H->wpAny (model X.prog X.w) X.A (execs st X.env) (SP X pins D) X.xe s
theorem aA {α:Type}{t:Sem α}{Q Q':α->Shared->Prop}{M:Model}{A:Around}{E:Value->Shared->Prop}{s:Shared} (h:wpAny M A t Q E s) (hQ:∀a s,Q a s->Q' a s):wpAny M A t Q' E s:=k6 h hQ fun _ _ x=>x
section
variable{X:Cx}
def pG (i:Nat):TE:=fun σ H Q=>∃v,σ[i]? = some (some v)/\Q v H
def tC (v:V):TE:=fun _ H Q=>Q v H
theorem Xn {i:Nat}{x:Str}{pos:Pos} (hN:X.N[i]? = some x) (hv:EJ X.env.scope x) (hd:(x==("__debug__" : Str))=false:=by decide) (fh:(x==("__classdict__" : Str))=false:=by decide):PE X (.Name x pos) (pG i):=by
 intro pins s σ H Q I h;obtain⟨v,e,h⟩:=h;obtain⟨m,hn,hl⟩:=I.loc;obtain⟨u,r,l⟩:=hl i x v hN e hv;have fin:EP X pins σ Q u s:=⟨v,H,I,r,h⟩;rcases l with⟨hk,hm⟩|⟨hk,c,hc,L9⟩
 ·exact wpAny_Name (wpAny_loadName_local I.ok.kind hk hn hm fin) hd
 ·rcases hk with hk|hk
  ·exact wpAny_Name (wpAny_loadName_cell I.ok.kind hk hc L9 fin) hd
  ·exact wpAny_Name (wpAny_loadName_free I.ok.kind hk hc L9 fin fh) hd
theorem aN {i j pos}:PE X (.Constant (.int i) j pos) (tC (.int i)):=fun _ _ _ H _ I h=>wpAny_Constant_int ⟨.int i,H,I.tok _,⟨_,rfl⟩,h⟩
theorem gE {b j pos}:PE X (.Constant (.bool b) j pos) (tC (.bl b)):=fun _ _ _ H _ I h=>Constant_bool ⟨.bl b,H,I,rfl,h⟩
theorem jr {j pos}:PE X (.Constant .none j pos) (tC .aF):=fun _ _ _ H _ I h=>Constant_none ⟨.aF,H,I,rfl,h⟩
theorem lu {x j pos}:PE X (.Constant (.str x) j pos) (tC (.str x)):=fun _ _ _ H _ I h=>Calls.Constant_str ⟨.str x,H,I.tok _,⟨_,rfl⟩,h⟩
def Gl (X:Cx) (x:Str):Prop:=X.env.kindOf x=some .globalImplicit
theorem mw {E:Value->Shared->Prop}{pins:List (Addr×Obj)}{s:Shared}{σ:St}{H:Hp}{x:Str}{u:Value}{pos:Pos}{Q:Value->Shared->Prop} (I:Inv X pins σ H s) (hg:Gl X x) (hm:X.mg x=some u) (h:Q u s)
  (hd:(x==("__debug__" : Str))=false:=by decide):wpAny (model X.prog X.w) X.A (eval (.Name x pos) X.env) Q E s:=
 ahx I.ok.kind hg (Calls.loadGlobal_global (by rw[I.ok.glob];exact I.mod.glob.keeps I.bk) hm h) hd
theorem oZ {E:Value->Shared->Prop}{pins:List (Addr×Obj)}{s:Shared}{σ:St}{H:Hp}{x:Str}{u:Value}{pos:Pos}{Q:Value->Shared->Prop} (I:Inv X pins σ H s) (hg:Gl X x) (hm:X.mg x=none) (hv:bootBuiltins x=some u) (h:Q u s)
  (hn:x ≠ "__name__" :=by decide) (hd:(x==("__debug__" : Str))=false:=by decide):wpAny (model X.prog X.w) X.A (eval (.Name x pos) X.env) Q E s:=by
 obtain⟨mb,h1,h2⟩:=I.mod.blt;exact ahx I.ok.kind hg (Calls.loadGlobal_builtin (by rw[I.ok.glob];exact I.mod.glob.keeps I.bk) hm (by rw[I.ok.blt];exact h1.keeps I.bk) ((h2 x hn).trans hv) h) hd
theorem C3 {x:Str}{v:V}{u:Value}{pos:Pos} (hg:Gl X x) (hm:X.mg x=some u) (r:RelV v u) (hd:(x==("__debug__" : Str))=false:=by decide):PE X (.Name x pos) (tC v):=
 fun _ _ _ H _ I h=>mw I hg hm ⟨v,H,I,r,h⟩ hd
theorem lh {x:Str}{v:V}{u:Value}{pos:Pos} (hg:Gl X x) (hm:X.mg x=none) (hv:bootBuiltins x=some u) (r:RelV v u) (hn:x ≠ "__name__" :=by decide) (hd:(x==("__debug__" : Str))=false:=by decide):PE X (.Name x pos) (tC v):=
 fun _ _ _ H _ I h=>oZ I hg hm hv ⟨v,H,I,r,h⟩ hn hd
variable{a b:Expr}{ta tb:TE}{pos:Pos}
def PC (X:Cx) (op:CmpOp) (a b:Expr) (t:TE):Prop:=
 ∀ (pins:List (Addr×Obj)) (s:Shared) (σ:St) (H:Hp) (Q:VK),Inv X pins σ H s->t σ H Q ->
  wpAny (model X.prog X.w) X.A (eval a X.env) (fun v aY=>wpAny (model X.prog X.w) X.A (eval b X.env) (fun u lz=>wpAny (model X.prog X.w) X.A (compareOp op v u) (EP X pins σ Q) X.xe lz) X.xe aY) X.xe s
def tB (t:TE):TT:=fun σ H Q=>t σ H fun x H1=>∃c,x = .bl c/\Q c H1
theorem LJ {op:CmpOp}{t:TE} (h:PC X op a b t) (h1:behindInMarks op b=false:=by first|exact Vk _ (by decide) (by decide)|rfl):PE X (.Compare a [op] [b] pos) t:=fun pins s σ H Q I hw=>wpAny_Compare1 (h pins s σ H Q I hw) h1
theorem Xo {op:CmpOp}{t:TE} (h:PC X op a b t) (h1:behindInMarks op b=false:=by first|exact Vk _ (by decide) (by decide)|rfl):PT X (.Compare a [op] [b] pos) (tB t):=by
 intro pins s σ H Q I hw;refine wpAny_isTrue_Compare1 (aA (h pins s σ H _ I hw) fun v s1 h1=>aA h1 fun u s2 h2=>aA h2 fun c s3 ⟨x,H1,I1,r1,q1⟩=>?_) h1;obtain⟨d,rfl,q⟩:=q1;cases r1
 exact lT ⟨H1,I1,q⟩
theorem eG {e:Expr}{t:TE} (h:PE X e t) (he:∀whole,isTrue e X.env whole=(do let v <- whole;standAt e.pos;holding [v] (truthy v)):=by intro _;rfl):PT X e (tB t):=by
 intro pins s σ H Q I hw;refine isTrue_plain (aA (h pins s σ H _ I hw) fun v s1 ⟨x,H1,I1,r1,q1⟩=>?_) (he _);obtain⟨d,rfl,q⟩:=q1;cases r1
 exact lT ⟨H1,I1,q⟩
variable{tA An:TT}{rest:List Expr}
def ZD (t u:TT):TT:=fun σ H Q=>t σ H fun c H1=>if c=true then u σ H1 Q else Q false H1
def tOr (t u:TT):TT:=fun σ H Q=>t σ H fun c H1=>if c=true then Q true H1 else u σ H1 Q
def ZE (t:TT):TT:=fun σ H Q=>t σ H fun c H1=>Q (!c) H1
theorem pw_and1 (ha:PT X a tA):PW X (.BoolOp .And [a] pos) tA:=by
 intro wh pins s σ H Q I h;refine isTrue_and (aA (ha pins s σ H Q I h) fun c s1 e=>?_);cases c with
 |true=>exact isTrue_and_nil e
 |false=>exact e
theorem pw_or1 (ha:PT X a tA):PW X (.BoolOp .Or [a] pos) tA:=by
 intro wh pins s σ H Q I h;refine isTrue_or (aA (ha pins s σ H Q I h) fun c s1 e=>?_);cases c with
 |false=>exact isTrue_or_nil e
 |true=>exact e
theorem pw_and (ha:PT X a tA) (hb:PW X (.BoolOp .And (b::rest) pos) An):PW X (.BoolOp .And (a::b::rest) pos) (ZD tA An):=by
 intro wh pins s σ H Q I h;refine isTrue_and (aA (ha pins s σ H _ I h) fun c s1 ⟨H1,I1,q1⟩=>?_);cases c with
 |true=>exact hb wh pins s1 σ H1 Q I1 q1
 |false=>exact⟨H1,I1,q1⟩
theorem pw_or (ha:PT X a tA) (hb:PW X (.BoolOp .Or (b::rest) pos) An):PW X (.BoolOp .Or (a::b::rest) pos) (tOr tA An):=by
 intro wh pins s σ H Q I h;refine isTrue_or (aA (ha pins s σ H _ I h) fun c s1 ⟨H1,I1,q1⟩=>?_);cases c with
 |true=>exact⟨H1,I1,q1⟩
 |false=>exact hb wh pins s1 σ H1 Q I1 q1
theorem fq (ha:PT X a tA):PT X (.UnaryOp .Not a pos) (ZE tA):=by
 intro pins s σ H Q I h;exact isTrue_not (ha pins s σ H (fun c H1=>Q (!c) H1) I h)
def Yi (ta tb:TE):TE:=fun σ H Q=>ta σ H fun x H1=>∃c,x = .bl c/\if c=true then tb σ H1 Q else Q (.bl false) H1
def Yj (ta:TE):TE:=fun σ H Q=>ta σ H fun x H1=>∃c,x = .bl c/\Q (.bl (!c)) H1
theorem tm {op}{t:TE} (h:PE X a t):PE X (.BoolOp op [a] pos) t:=fun pins s σ H Q I hw=>BoolOp_one (h pins s σ H Q I hw)
theorem o6 (ha:PE X a ta) (hb:PE X (.BoolOp .And (b::rest) pos) tb):PE X (.BoolOp .And (a::b::rest) pos) (Yi ta tb):=by
 intro pins s σ H Q I h;refine BoolOp_and (aA (ha pins s σ H _ I h) fun v s1 ⟨x,H1,I1,r1,q1⟩=>?_);obtain⟨c,rfl,q1⟩:=q1;cases r1
 refine lT ?_;cases c with
 |true=>exact hb pins s1 σ H1 Q I1 q1
 |false=>exact⟨.bl false,H1,I1,rfl,q1⟩
theorem Xp (ha:PE X a ta):PE X (.UnaryOp .Not a pos) (Yj ta):=by
 intro pins s σ H Q I h;refine UnaryOp_ (aA (ha pins s σ H _ I h) fun v s1 ⟨x,H1,I1,r1,q1⟩=>?_);obtain⟨c,rfl,q1⟩:=q1;cases r1
 exact not_of (lT ⟨.bl (!c),H1,I1,rfl,q1⟩)
end
def ak (K:PySem.W.Frag) (H:Hp) (a:Addr) (xs:List V):Prop:=
 Rd H a (.lst xs) \/
  ∃ (o:Obj) (its:Array Value) (n:Nat),K.lookup a=some o/\o.cls = .type "list" /\ o.dict=none/\o.data = .seq its n/\its.size<=sizeLine/\Vals xs its.toList
def aG (K:PySem.W.Frag) (H:Hp) (a:Addr) (xs:List V):Prop:=
 Rd H a (.tup xs) \/
  ∃ (o:Obj) (its:Array Value) (n:Nat),K.lookup a=some o/\o.cls = .type "tuple" /\ o.data = .seq its n/\its.size<=sizeLine/\Vals xs its.toList
def ZF:Value->Option V
 |.none=>some .aF
 |.bool b=>some (.bl b)
 |.int i _=>some (.int i)
 |.str x _=>some (.str x)
 |.bytes b _=>some (.jy b)
 |.float b _=>some (.jz b)
 |.ref a=>some (.ref a)
 |.type n=>some (.ty n)
 |_=>none
theorem RelV.abs {x:V}{u:Value} (r:RelV x u):ZF u=some x:=by
 cases x with
 |aF=>cases r;rfl
 |bl _=>cases r;rfl
 |int _=>obtain⟨t,rfl⟩:=r;rfl
 |str _=>obtain⟨t,rfl⟩:=r;rfl
 |jy _=>obtain⟨t,rfl⟩:=r;rfl
 |jz _=>obtain⟨t,rfl⟩:=r;rfl
 |ref _=>cases r;rfl
 |ty _=>cases r;rfl
theorem RelV.inj {x y:V}{u:Value} (r:RelV x u) (q:RelV y u):x=y:=gy (r.abs.symm.trans q.abs)
theorem Vals.inj:∀ {xs ys:List V}{us:List Value},Vals xs us->Vals ys us->xs=ys
 |_,_,_,.nil,.nil=>rfl
 |_,_,_,.cons r t,.cons r' t'=>by rw[r.inj r',Vals.inj t t']
section
variable{X:Cx}{pins:List (Addr×Obj)}{σ:St}{H:Hp}{s:Shared}{a:Addr}{xs ys:List V}
theorem ak.of {K:PySem.W.Frag} (h:H a=some (.lst xs)):ak K H a xs:= .inl (.inl h)
theorem aG.of {K:PySem.W.Frag} (h:H a=some (.tup xs)):aG K H a xs:= .inl (.inl h)
theorem Inv.list (I:Inv X pins σ H s) (h:ak X.K H a xs):∃its:List Value,Vals xs its/\PlainL s.heap a its.toArray/\xs.length<=sizeLine:=by
 rcases h with h|⟨o,its,n,hk,hc,hd,hs,hz,r⟩
 ·obtain⟨z,its,n,r,e⟩:=h.ok I.ar
  exact⟨its,r,⟨_,n,e,rfl,rfl,rfl⟩,z⟩
 ·refine⟨its.toList,r,⟨o,n,I.bq a o hk,hc,hd,by simpa using hs⟩,?_⟩
  have e:=r.length;simp only[jG]at e;omega
theorem Inv.tuple (I:Inv X pins σ H s) (h:aG X.K H a xs):∃its:List Value,Vals xs its/\IsTup s.heap a its.toArray/\xs.length<=sizeLine:=by
 rcases h with h|⟨o,its,n,hk,hc,hs,hz,r⟩
 ·obtain⟨z,its,r,p⟩:=h.ok I.ar
  exact⟨its,r,p.is,z⟩
 ·refine⟨its.toList,r,⟨o,I.bq a o hk,hc,n,by simpa using hs⟩,?_⟩
  have e:=r.length;simp only[jG]at e;omega
theorem Inv.zq (I:Inv X pins σ H s) (h:ak X.K H a xs) (h':ak X.K H a ys):xs=ys:=by
 obtain⟨its,r,⟨o,n,e,_,_,d⟩,_⟩:=I.list h;obtain⟨its',r',⟨o',n',e',_,_,d'⟩,_⟩:=I.list h';rw[e]at e';cases e';rw[d]at d';injection d' with d1 _;have:its=its':=by simpa using eO Array.toList d1
 subst this;exact r.inj r'
theorem Inv.Uu (I:Inv X pins σ H s) (h:aG X.K H a xs) (h':aG X.K H a ys):xs=ys:=by
 obtain⟨its,r,⟨o,e,_,n,d⟩,_⟩:=I.tuple h;obtain⟨its',r',⟨o',e',_,n',d'⟩,_⟩:=I.tuple h';rw[e]at e';cases e';rw[d]at d';injection d' with d1 _;have:its=its':=by simpa using eO Array.toList d1
 subst this;exact r.inj r'
end
abbrev Cx.ko (X:Cx) (E:Value->Shared->Prop):Cx:={ X with xe:=E }
abbrev Cx.Ao (X:Cx):Cx:=X.ko fun _ _=>False
theorem Cx.Ok.ko {X:Cx} (ok:X.Ok) (E:Value->Shared->Prop):(X.ko E).Ok:=
 ⟨ok.mod,ok.kind,ok.glob,ok.blt,ok.above,ok.inj,ok.has,ok.oi,ok.hd,ok.frames,ok.lD,ok.m3,ok.bs,ok.jV,ok.n5,ok.mX,ok.fZ,ok.kr⟩
theorem Cx.Ok.o7 {X:Cx}{E:Value->Shared->Prop} (ok:(X.ko E).Ok):X.Ok:=
 ⟨ok.mod,ok.kind,ok.glob,ok.blt,ok.above,ok.inj,ok.has,ok.oi,ok.hd,ok.frames,ok.lD,ok.m3,ok.bs,ok.jV,ok.n5,ok.mX,ok.fZ,ok.kr⟩
section
variable{X:Cx}{pins:List (Addr×Obj)}{σ:St}{H:Hp}{s:Shared}{E:Value->Shared->Prop}
theorem Inv.ko (I:Inv X pins σ H s) (E:Value->Shared->Prop):Inv (X.ko E) pins σ H s:=⟨I.ok.ko E,I.os,I.bare,I.base,I.loc,I.cell,I.free,I.gT,I.pin,I.ar,I.len⟩
theorem Inv.o7 (I:Inv (X.ko E) pins σ H s):Inv X pins σ H s:=⟨I.ok.o7,I.os,I.bare,I.base,I.loc,I.cell,I.free,I.gT,I.pin,I.ar,I.len⟩
theorem SP.o7 {D:Ends}{f:Flow}{s':Shared} (h:SP (X.ko E) pins D f s'):SP X pins D f s':=by
 cases f with
 |next=>obtain⟨aD,H',I,q⟩:=h;exact⟨aD,H',I.o7,q⟩
 |brk=>obtain⟨aD,H',I,q⟩:=h;exact⟨aD,H',I.o7,q⟩
 |cont=>obtain⟨aD,H',I,q⟩:=h;exact⟨aD,H',I.o7,q⟩
 |ret u=>obtain⟨v,aD,H',I,r,q⟩:=h;exact⟨v,aD,H',I.o7,r,q⟩
theorem fB.Ao {st:List Stmt}{t:TS} (h:fB X.Ao st t):fB X st t:=fun pins s σ H D I hw =>
 k6 (h pins s σ H D (I.ko _) hw) (fun _ _ q=>q.o7) fun _ _ z=>False.elim z
end
section
variable{X:Cx}{st:Stmt}{rest:List Stmt}{t u:TS}{e:Expr}{te:TE}{pos:Pos}
def Yk:TS:=fun D σ H=>D.nx σ H
def ZG (t u:TS):TS:=fun D σ H=>t { D with nx:=u D } σ H
theorem dh:fB X [] Yk:=fun _ _ σ H _ I h=>vp ⟨σ,H,I,h⟩
theorem aC (h1:PS X st t) (h2:fB X rest u):fB X (st::rest) (ZG t u):=by
 intro pins s σ H D I h;refine QP (aA (h1 pins s σ H { D with nx:=u D } I h) fun f s1 q=>?_);cases f with
 |next =>
  obtain⟨aD,H',I',q⟩:=q;exact h2 pins s1 aD H' D I' q
 |ret v=>exact q
 |brk=>exact q
 |cont=>exact q
theorem aM (h1:PS X st t):fB X [st] t:=by
 intro pins s σ H D I h;refine QP (aA (h1 pins s σ H D I h) fun f s1 q=>?_);cases f with
 |next=>exact vp q
 |ret v=>exact q
 |brk=>exact q
 |cont=>exact q
theorem Inv.quiet {pins:List (Addr×Obj)}{σ:St}{H:Hp}{s:Shared} (I:Inv X pins σ H s):interactive X.env=false:=by simp[interactive,I.ok.kind]
def Yl (te:TE):TS:=fun D σ H=>te σ H fun _ H1=>D.nx σ H1
theorem iR (he:PE X e te) (hs:swapsWith e none pos.line X.env=pure false:=by rfl):PS X (.Expr e pos) (Yl te):=by
 intro pins s σ H D I h;exact wpAny_Expr_any (aA (he pins s σ H _ I h) fun v s1 ⟨x,H1,I1,r1,q1⟩=>⟨σ,H1,I1,q1⟩) I.quiet hs
def ZH (te:TE):TS:=fun D σ H=>te σ H D.rt
theorem bg (he:PE X e te):PS X (.Return (some e) pos) (ZH te):=by
 intro pins s σ H D I h;exact wpAny_Return_some (aA (he pins s σ H _ I h) fun v s1 ⟨x,H1,I1,r1,q1⟩=>⟨x,σ,H1,I1,r1,q1⟩)
def ZI (c:TT) (t u:TS):TS:=fun D σ H=>c σ H fun b H1=>if b=true then t D σ H1 else u D σ H1
theorem dj {c:Expr}{a b:List Stmt}{tc:TT} (hc:PT X c tc) (ha:fB X a t) (hb:fB X b u):PS X (.If c a b pos) (ZI tc t u):=by
 intro pins s σ H D I h;refine wpAny_If (aA (hc pins s σ H _ I h) fun d s1 ⟨H1,I1,q1⟩=>?_);cases d with
 |true=>exact ha pins s1 σ H1 D I1 q1
 |false=>exact hb pins s1 σ H1 D I1 q1
def Xq:TS:=fun _ _ _=>False
theorem zi {sts:List Stmt}:fB X sts Xq:=fun _ _ _ _ _ _ h=>h.elim
end
abbrev TG:=V->St->Hp->(St->Hp->Prop)->Prop
abbrev m5:=List V->St->Hp->(St->Hp->Prop)->Prop
def PG (X:Cx) (target:Expr) (t:TG):Prop:=
 ∀ (pins:List (Addr×Obj)) (s:Shared) (σ:St) (H:Hp) (v:V) (u:Value) (Q:St->Hp->Prop),Inv X pins σ H s->RelV v u->t v σ H Q ->
  wpAny (model X.prog X.w) X.A (assign target X.env u) (fun _ s'=>∃aD H',Inv X pins aD H' s'/\Q aD H') X.xe s
def uD (X:Cx) (ts:List Expr) (t:m5):Prop:=
 ∀ (pins:List (Addr×Obj)) (s:Shared) (σ:St) (H:Hp) (vs:List V) (us:List Value) (Q:St->Hp->Prop),Inv X pins σ H s->Vals vs us->t vs σ H Q ->
  wpAny (model X.prog X.w) X.A (assignInOrder ((assignEach ts X.env).map (·.2)) us) (fun _ s'=>∃aD H',Inv X pins aD H' s'/\Q aD H') X.xe s
abbrev DU:=V->V->V->Hp->(Hp->Prop)->Prop
def My (X:Cx) (t:DU):Prop:=
 ∀ (pins:List (Addr×Obj)) (s:Shared) (σ:St) (H:Hp) (o i v:V) (ov iv u:Value) (Q:Hp->Prop),Inv X pins σ H s->RelV o ov->RelV i iv->RelV v u->t o i v H Q ->
  wpAny (model X.prog X.w) X.A (setItem ov iv u) (fun _ s'=>∃H',Inv X pins σ H' s'/\Q H') X.xe s
section
variable{X:Cx}{pos:Pos}
def tM (i:Nat):TG:=fun v σ H Q=>Q (σ.set i (some v)) H
theorem aU {i:Nat}{x:Str} (hN:X.N.Nodup) (hi:X.N[i]? = some x) (hx:Loc X.env.scope x) (hf:X.fn x=true\/X.env.scope.names.lookup x=some .local:=by first|exact .inl rfl|exact .inr rfl|assumption):PG X (.Name x pos) (tM i):=by
 intro pins s σ H v u Q I r h;exact wpAny_assign_Name (sN I hN hi hx r (fun s' I'=>⟨_,H,I',h⟩) hf)
def ZJ:m5:=fun vs σ H Q=>vs = []/\Q σ H
def Ym (t:TG) (u:m5):m5:=fun vs σ H Q=>∃v r,vs=v::r/\t v σ H fun aD H'=>u r aD H' Q
theorem lj:uD X [] ZJ:=by
 intro pins s σ H vs us Q I r h;obtain⟨e,h⟩:=h;subst e;cases r
 exact assignInOrder_nil ⟨σ,H,I,h⟩
theorem eW {e:Expr}{es:List Expr}{t:TG}{u:m5} (h1:PG X e t) (h2:uD X es u)
  (hs:(assignEach (e::es) X.env).map (·.2)=assign e X.env::(assignEach es X.env).map (·.2):=by rfl):uD X (e::es) (Ym t u):=by
 intro pins s σ H vs us Q I r h;obtain⟨v,vr,e1,h⟩:=h;subst e1;cases r with
 |cons r rr =>
  rw[hs];refine QQ (aA (h1 pins s σ H _ _ _ I r h) fun _ s1 ⟨uE,H1,I1,q1⟩=>?_);exact h2 pins s1 uE H1 _ _ Q I1 rr q1
def Mz (K:PySem.W.Frag) (n:Nat) (t:m5):TG:=fun v σ H Q=>∃a xs,v = .ref a/\aG K H a xs/\xs.length=n/\t xs σ H Q
theorem pj {es:List Expr}{k:Nat}{t:m5}{n:Nat} (hc:X.calm=true) (h:uD X es t)
  (hn:(assignEach es X.env).length=n:=by rfl) (rC:(assignEach es X.env).findIdx? (·.1)=none:=by rfl):PG X (.Tuple es k pos) (Mz X.K n t):=by
 intro pins s σ H v u Q I r hw;obtain⟨a,xs,e1,hq,hl,hw⟩:=hw;subst e1;cases r
 obtain⟨its,rv,ht,hz⟩:=I.tuple hq;refine assign_Tuple_tuple (I.ok.hd hc) ht (by simp[hn,<-hl,rv.length]) rC fun h' hx=>?_
 have I1:Inv X pins σ H { s with heap:=h' }:=I.kept (t':=s.toks) fun b o e=>hx b o (bj (aR e)) e;exact h pins _ σ H xs _ Q I1 (by simpa using rv) hw
def ZK (to ti:TE) (t:DU):TG:=fun v σ H Q=>to σ H fun o H1=>ti σ H1 fun i H2=>t o i v H2 fun H3=>Q σ H3
theorem LK {o i:Expr}{to ti:TE}{t:DU} (ho:PE X o to) (hi:PE X i ti) (hs:My X t)
  (ha:∀v,assign (.Subscript o i pos) X.env v=(do
   let ov <- holding [v] (eval o X.env)
   let iv <- holding [v,ov] (eval i X.env)
   standAt pos
   holding [v,ov,iv] (setItem ov iv v)
   release [v,ov,iv] []):=by intro _;rfl):PG X (.Subscript o i pos) (ZK to ti t):=by
 intro pins s σ H v u Q I r h;rw[ha];refine ae (cX (aA (ho pins s σ H _ I h) fun ov s1 ⟨x,H1,I1,r1,q1⟩=>?_));refine ae (cX (aA (hi pins s1 σ H1 _ I1 q1) fun iv s2 ⟨y,H2,I2,r2,q2⟩=>?_));refine ae (oG (ae (cX (aA (hs pins s2 σ H2 x y v ov iv u _ I2 r1 r2 r q2) fun _ s3 ⟨H3,I3,q3⟩=>?_))));exact wpAny_release ⟨σ,H3,I3,q3⟩
def DV (te:TE) (g:TG):TS:=fun D σ H=>te σ H fun x H1=>g x σ H1 D.nx
theorem tq {tg e:Expr}{te:TE}{g:TG} (he:PE X e te) (hg:PG X tg g) (hs:swapsWithSole [tg] e pos.line X.env=pure false:=by rfl) (hw:swappedStores [tg] e X.env=pure none:=by rfl)
  (h1:(assignEach [tg] X.env).map (·.2) = [assign tg X.env]:=by rfl):PS X (.Assign [tg] e pos) (DV te g):=by
 intro pins s σ H D I h;refine wpAny_Assign_stores (aA (he pins s σ H _ I h) fun v s1 ⟨x,H1,I1,r1,q1⟩=>?_) hs hw;rw[h1];exact aA (hg pins s1 σ H1 x v _ I1 r1 q1) fun _ s2 q=>q
theorem br {i:Nat}{x:Str}{e:Expr}{te:TE}{pos':Pos} (hN:X.N.Nodup) (hi:X.N[i]? = some x) (hx:Loc X.env.scope x) (he:PE X e te) (hs:swapsWith e (some (.Name x pos')) pos.line X.env=pure false:=by rfl) (hf:X.fn x=true\/X.env.scope.names.lookup x=some .local:=by first|exact .inl rfl|exact .inr rfl|assumption) :
  PS X (.Assign [.Name x pos'] e pos) (DV te (tM i)):=by
 intro pins s σ H D I h;refine wpAny_Assign_Name (aA (he pins s σ H _ I h) fun v s1 ⟨y,H1,I1,r1,q1⟩=>?_) hs;exact sN I1 hN hi hx r1 (fun s2 I2=>⟨_,H1,I2,q1⟩) hf
def ZL (i j:Nat) (ta:TA):TS:=fun D σ H=>ta σ H fun vs H1=>∃v w,vs = [v,w]/\D.nx ((σ.set i (some v)).set j (some w)) H1
theorem Xr {i j:Nat}{x y:Str}{a b:Expr}{ta:TA}{px py pt:Pos}{kt k2 EM} (hc:X.calm=true) (hN:X.N.Nodup) (hi:X.N[i]? = some x) (hj:X.N[j]? = some y) (gv:i≠j)
  (hx:X.env.scope.names.lookup x=some .local) (hy:X.env.scope.names.lookup y=some .local) (ha:PA X [a,b] ta)
  (hw:swappedStores [.Tuple [.Name x px,.Name y py] kt pt] (.Tuple [a,b] k2 EM) X.env=pure (some [x,y]))
  (hs:swapsWithSole [.Tuple [.Name x px,.Name y py] kt pt] (.Tuple [a,b] k2 EM) pos.line X.env=pure false:=by rfl) :
  PS X (.Assign [.Tuple [.Name x px,.Name y py] kt pt] (.Tuple [a,b] k2 EM) pos) (ZL i j ta):=by
 intro pins s σ H D I h;rw[exec_Assign_arm];refine ae (oG ?_);rw[hs];refine ae (aj ?_);rw[au (by decide)]
 refine ae (Tuple_ (aA (ha _ pins s σ H _ I h) fun us s1 ⟨vs,H1,I1,r1,q1⟩=>?_));obtain⟨v,w,e1,q1⟩:=q1;subst e1;obtain⟨u1,u2,rfl,rv,gH⟩:∃u1 u2,us = [u1,u2]/\RelV v u1/\RelV w u2:=by
  cases r1 with
  |cons p q =>
   cases q with
   |cons p' q' =>
    cases q'
    exact⟨_,_,rfl,p,p'⟩
 refine j9 ?_ (by show 2<=sizeLine;decide)
 have I2:Inv X pins σ H1 { s1 with heap:=s1.heap.push { cls:= .type "tuple",data:= .seq [u1,u2].toArray } }:=I1.kept (t':=s1.toks) fun b o e=>aT _ e;rw[hw];refine ae (aj ?_);show wpAny (model X.prog X.w) X.A (do rule "assign.swapped-stores"; let items <- unpackItems (.ref s1.heap.objs.size) 2 none;assignInOrder [fun v=>bindName X.env y v,fun v=>bindName X.env x v] items.reverse;pure Flow.next) _ _ _;refine ae (lU (ae (unpackItems_tuple (items:= #[u1,u2]) (I.ok.hd hc) (IsTup.new s1.heap _) fun h' d9=>?_)));have I3:=I2.kept (h':=h') (t':=s1.toks) fun b o e=>d9 b o (bj (aR e)) e;show wpAny _ _ (assignInOrder [fun v=>bindName X.env y v,fun v=>bindName X.env x v] [u2,u1] >>= fun _=>pure Flow.next) _ _ _;refine ae (QQ (wpAny_bindName (sN I3 hN hj (.inl hy) gH (fun s2 I4=>?_) (.inr hy))));refine QQ (wpAny_bindName (sN I4 hN hi (.inl hx) rv (fun s3 I5=>assignInOrder_nil (aj ?_)) (.inr hx)));rw[List.set_comm _ _ (aQ gv)]at I5;exact⟨_,H1,I5,q1⟩
def Xs (c:TT) (tb:TS):TS:=fun D σ H=>∃W:Nat->St->Hp->Prop,(∃m,W m σ H) /\ ∀m σ H,W m σ H ->
 c σ H fun b H1=>if b=true then ∃N:St->Hp->Prop,(∀aD H',N aD H' -> ∃m',m' < m/\W m' aD H')/\tb { D with nx:=N,ct:=N,bk:=D.nx } σ H1 else D.nx σ H1
theorem zt {c:Expr}{body:List Stmt}{tc:TT}{tb:TS} (hp:PassesOwn (model X.prog X.w) X.A X.env X.xe) (hc:PT X c tc) (hb:fB X body tb):PS X (.While c body [] pos) (Xs tc tb):=by
 intro pins s σ H D I h;obtain⟨W,⟨m0,w0⟩,turn⟩:=h;refine wpAny_While (codeAny_whileLoop (fun n s'=>∃aD H',Inv X pins aD H' s'/\W n aD H') ?_ m0 ⟨σ,H,I,w0⟩);rintro n s1 ⟨uE,H1,I1,w1⟩;refine vq hp (aA (hc pins s1 uE H1 _ I1 (turn n uE H1 w1)) fun b s2 ⟨H2,I2,q2⟩=>?_);cases b with
 |true =>
  obtain⟨N,hN,q2⟩:=q2;rw[aB rfl];refine vq hp (aA (hb pins s2 uE H2 _ I2 q2) fun f s3 q3=>?_);cases f with
  |next =>
   obtain⟨lF,H3,I3,n3⟩:=q3;obtain⟨m',hm,w3⟩:=hN lF H3 n3;exact⟨m',hm,lF,H3,I3,w3⟩
  |cont =>
   obtain⟨lF,H3,I3,n3⟩:=q3;obtain⟨m',hm,w3⟩:=hN lF H3 n3;exact⟨m',hm,lF,H3,I3,w3⟩
  |brk=>exact q3
  |ret v=>exact q3
 |false =>
  rw[au cP];exact vp ⟨uE,H2,I2,q2⟩
end
structure It where
 go:Nat->Hp->Prop
 pK:Nat->Hp->V->Hp->Prop
 stop:Nat->Hp->Prop
def f9 (X:Cx) (pins:List (Addr×Obj)) (H:Hp) (b:Addr):Prop:=
 H b=none/\b≠X.env.locals/\b ∉ X.fs/\(b∈X.ex\/X.cC.heap.objs.size<=b)/\(∀x c,X.env.cells.lookup x=some c->c≠b) /\ ∀p∈X.pn++pins,p.1≠b
theorem Inv.kq {X:Cx}{pins:List (Addr×Obj)}{σ:St}{H H':Hp}{s:Shared}{b:Addr} (I:Inv X pins σ H s) (hb:s.heap.objs.size<=b) (hn:H' b=none):f9 X pins H' b:=by
 refine⟨hn,lV (gj I.lt hb),I.ZA hb,.inr (dU I.sz hb),fun x c e z=>?_,fun p hp z=>?_⟩
 ·obtain⟨v,q⟩:=I.cell x c e
  exact absurd (gj q.lt (by rw[z];exact hb)) (qo _)
 ·exact absurd (gj (aR (I.pin p hp).1) (by rw[z];exact hb)) (qo _)
structure Turn (P:Program) (w:World) (K:PySem.W.Frag) (tg:Expr) (J:It) (fp:List Addr) (it:Addr) (tn:Nat->Heap->Prop):Prop where
 mem:it∈fp
 obj:∀i h,tn i h -> ∀b∈fp,∃o,h.get? b=some o /\ ∀v,o.data ≠ .cell v
 keep:∀i h h',tn i h->(∀b∈fp,∀o,h.get? b=some o->h'.get? b=some o)->tn i h'
 item:∀ (X:Cx),X.prog=P->X.w=w->X.K=K->X.calm=true -> ∀ (i:Nat) (pins:List (Addr×Obj)) (s:Shared) (σ:St) (H:Hp) (E:Value->Shared->Prop),Inv X pins σ H s->(∀b∈fp,f9 X pins H b)->tn i s.heap->J.go i H ->
  wpAny (model P w) X.A (pyNext (.ref it)) (fun r s1=>∃u,r=some u /\
   wpAny (model P w) X.A (letOwnedTupleGo tg (.ref it) u) (fun _ s2=>∃x H',Inv X pins σ H' s2/\RelV x u/\J.pK i H x H'/\tn (i+1) s2.heap /\ ∀b∈fp,H' b=none) E s1) E s
 done:∀ (X:Cx),X.prog=P->X.w=w->X.K=K->X.calm=true -> ∀ (i:Nat) (pins:List (Addr×Obj)) (s:Shared) (σ:St) (H:Hp) (E:Value->Shared->Prop),Inv X pins σ H s->(∀b∈fp,f9 X pins H b)->tn i s.heap->J.stop i H ->
  wpAny (model P w) X.A (pyNext (.ref it)) (fun r s1=>r=none/\Inv X pins σ H s1) E s
 self:∀ (A:Around) (i:Nat) (s:Shared) (Q:Value->Shared->Prop) (E:Value->Shared->Prop),tn i s.heap->Q (.ref it) s->wpAny (model P w) A (pyIter (.ref it)) Q E s
abbrev TI:=St->Hp->(It->Hp->Prop)->Prop
def NQ (X:Cx) (pins:List (Addr×Obj)) (σ:St) (tg:Expr) (R:It->Hp->Prop) (rD:Value) (s2:Shared):Prop:=
 ∃ (it:Addr) (fp:List Addr) (tn:Nat->Heap->Prop) (J:It) (H':Hp),rD = .ref it/\Inv X pins σ H' s2/\Turn X.prog X.w X.K tg J fp it tn/\tn 0 s2.heap/\(∀b∈fp,f9 X pins H' b)/\R J H'
def PI (X:Cx) (tg iter:Expr) (wi:TI):Prop:=
 ∀ (pins:List (Addr×Obj)) (s:Shared) (σ:St) (H:Hp) (R:It->Hp->Prop),Inv X pins σ H s->wi σ H R ->
  wpAny (model X.prog X.w) X.A (eval iter X.env) (fun v s1=>wpAny (model X.prog X.w) X.A (pyIter v) (NQ X pins σ tg R) X.xe s1) X.xe s
theorem wL {M:Model}{A:Around}{E:Value->Shared->Prop}{s:Shared}{tg:Expr}{it:Addr}{u:Value}{o:Obj}{n:String}{vs:Array Value}{Q:Unit->Shared->Prop} (ho:s.heap.get? it=some o) (hc:o.cls = .type n) (hd:o.data = .fields vs)
  (hn : ["enumerate","zip","dict_itemiterator","dict_reverseitemiterator","odict_iterator","itertools.zip_longest","itertools.pairwise"].contains n=false) (hQ:Q () s):wpAny M A (letOwnedTupleGo tg (.ref it) u) Q E s:=by
 unfold letOwnedTupleGo;cases tg <;> first
  |exact aj hQ
  |(cases u <;> first
    |exact aj hQ
    |(refine ae (yK ho ?_);rw[hc,hd];show wpAny M A (if (["enumerate","zip","dict_itemiterator","dict_reverseitemiterator","odict_iterator","itertools.zip_longest","itertools.pairwise"].contains n && vs[0]? == some (rawInt _))=true then _ else _) Q E s;rw[au (by intro h;rw[hn,Bool.false_and]at h;cases h)];exact aj hQ))
def rE (K:PySem.W.Frag) (a:Addr):It:=
 ⟨fun i H=>∃xs x,ak K H a xs/\xs[i]? = some x,fun i H x H'=>H'=H /\ ∀xs,ak K H a xs->xs[i]? = some x,fun i H=>∃xs,ak K H a xs/\xs.length<=i⟩
def xA (K:PySem.W.Frag) (a:Addr):It:=
 ⟨fun i H=>∃xs x,aG K H a xs/\xs[i]? = some x,fun i H x H'=>H'=H /\ ∀xs,aG K H a xs->xs[i]? = some x,fun i H=>∃xs,aG K H a xs/\xs.length<=i⟩
def rF (lo:Int) (n:Nat):It:=⟨fun i _=>i < n,fun i H x H'=>H'=H/\x = .int (lo+i),fun i _=>n<=i⟩
theorem Uv {P:Program}{w:World}{K:PySem.W.Frag}{tg:Expr} (a it:Addr):Turn P w K tg (rE K a) [it] it (fun i h=>h.IsListIter it a i) where
 mem:=by simp
 obj:=fun i h st b hb=>by
  have e:b=it:=by simpa using hb
  subst e;obtain⟨o,e,c,d⟩:=st;exact⟨o,e,fun v z=>by rw[d]at z;cases z⟩
 keep:=fun i h h' st k=>st.at fun o e=>k it (by simp) o e
 item:=by
  intro X hP hw hK hc i pins s σ H E I hf st hg;subst hP hw hK;obtain⟨xs,x,hq,hx⟩:=hg;obtain⟨its,rv,p,hz⟩:=I.list hq;obtain⟨u,hu,ru⟩:=rv.get hx;obtain⟨f0,f1,f2,f3,f4,f5⟩:=hf it (by simp)
  refine wpAny_pyNext_list_item st p.isList (x:=u) (by simpa using hu) fun h' fE sb=>?_
  have I1:Inv X pins σ H { s with heap:=h' }:=I.turned (t':=s.toks) (fun b o hb e=>(sb.2 b hb).trans e) f0 f1 f3 f4 f5;obtain⟨o,e,c,d⟩:=id fE;exact⟨u,rfl,wL (s:={ s with heap:=h' }) e c d (by decide) ⟨x,H,I1,ru,⟨rfl,fun ys hy=>by rw[I.zq hy hq];exact hx⟩,fE,fun b hb=>(hf b hb).1⟩⟩
 done:=by
  intro X hP hw hK hc i pins s σ H E I hf st hg;subst hP hw hK;obtain⟨xs,hq,hx⟩:=hg;obtain⟨its,rv,p,hz⟩:=I.list hq;obtain⟨f0,f1,f2,f3,f4,f5⟩:=hf it (by simp)
  have hl:=rv.length;exact wpAny_pyNext_list_end (I.ok.hd hc) st p.isList (by simp;omega) fun h' eb=>⟨rfl,I.turned (t':=s.toks) (fun b o hb e=>eb b o hb e) f0 f1 f3 f4 f5⟩
 self:=fun _ _ _ _ _ st h=>wpAny_pyIter_listiter st h
theorem Tv {P:Program}{w:World}{K:PySem.W.Frag}{tg:Expr} (a it:Addr):Turn P w K tg (xA K a) [it] it (fun i h=>h.IsTupleIter it a i) where
 mem:=by simp
 obj:=fun i h st b hb=>by
  have e:b=it:=by simpa using hb
  subst e;obtain⟨o,e,c,d⟩:=st;exact⟨o,e,fun v z=>by rw[d]at z;cases z⟩
 keep:=fun i h h' st k=>st.at fun o e=>k it (by simp) o e
 item:=by
  intro X hP hw hK hc i pins s σ H E I hf st hg;subst hP hw hK;obtain⟨xs,x,hq,hx⟩:=hg;obtain⟨its,rv,p,hz⟩:=I.tuple hq;obtain⟨u,hu,ru⟩:=rv.get hx;obtain⟨f0,f1,f2,f3,f4,f5⟩:=hf it (by simp)
  refine wpAny_pyNext_tuple_item st (show s.heap.IsTuple a its.toArray from p) (x:=u) (by simpa using hu) fun h' fE sb=>?_
  have I1:Inv X pins σ H { s with heap:=h' }:=I.turned (t':=s.toks) (fun b o hb e=>(sb.2 b hb).trans e) f0 f1 f3 f4 f5;obtain⟨o,e,c,d⟩:=id fE;exact⟨u,rfl,wL (s:={ s with heap:=h' }) e c d (by decide) ⟨x,H,I1,ru,⟨rfl,fun ys hy=>by rw[I.Uu hy hq];exact hx⟩,fE,fun b hb=>(hf b hb).1⟩⟩
 done:=by
  intro X hP hw hK hc i pins s σ H E I hf st hg;subst hP hw hK;obtain⟨xs,hq,hx⟩:=hg;obtain⟨its,rv,p,hz⟩:=I.tuple hq;obtain⟨f0,f1,f2,f3,f4,f5⟩:=hf it (by simp)
  have hl:=rv.length;exact wpAny_pyNext_tuple_end (I.ok.hd hc) st (show s.heap.IsTuple a its.toArray from p) (by simp;omega) fun h' eb=>⟨rfl,I.turned (t':=s.toks) (fun b o hb e=>eb b o hb e) f0 f1 f3 f4 f5⟩
 self:=fun _ _ _ _ _ st h=>wpAny_pyIter_tupleiter st h
theorem Tw {P:Program}{w:World}{K:PySem.W.Frag}{tg:Expr} (it:Addr) (lo:Int) (n:Nat):Turn P w K tg (rF lo n) [it] it (fun i h=>IsRangeIter h it (lo+(i:Nat) * 1) ((n:Int) - (i:Nat)) 1) where
 mem:=by simp
 obj:=fun i h st b hb=>by
  have e:b=it:=by simpa using hb
  subst e;exact⟨_,st,fun v z=>by
   have z':Data.fields _=Data.cell v:=z;cases z'⟩
 keep:=fun i h h' st k=>k it (by simp) _ st
 item:=by
  intro X hP hw hK hc i pins s σ H E I hf st hg;subst hP hw hK;obtain⟨f0,f1,f2,f3,f4,f5⟩:=hf it (by simp)
  have W:=Walks.range (prog:=X.prog) (w:=X.w) (I.ok.hd hc) it lo 1 n;refine W.item i s _ _ hg st fun v h' tk hv fE kk=>?_;obtain⟨t,rfl⟩:=hv;have I1:Inv X pins σ H { s with heap:=h',toks:=tk }:=I.turned (fun b o hb e=>kk b o (by simpa using hb) e) f0 f1 f3 f4 f5
  refine⟨_,rfl,wL (s:={ s with heap:=h',toks:=tk }) (n:= "range_iterator") fE rfl rfl (by decide) ⟨.int (lo+i),H,I1,⟨t,?_⟩,⟨rfl,rfl⟩,fE,fun b hb=>(hf b hb).1⟩⟩
  rw[Int.mul_one]
 done:=by
  intro X hP hw hK hc i pins s σ H E I hf st hg;subst hP hw hK;obtain⟨f0,f1,f2,f3,f4,f5⟩:=hf it (by simp)
  exact wpAny_pyNext_range_end (I.ok.hd hc) st (by have:n<=i:=hg;omega) fun h' eb=>⟨rfl,I.turned (t':=s.toks) (fun b o hb e=>eb b o hb e) f0 f1 f3 f4 f5⟩
 self:=fun _ _ _ _ _ st h=>wpAny_pyIter_rangeiter st h
section
variable{X:Cx}{tg:Expr}
def Ma (K:PySem.W.Frag) (tl:TE):TI:=fun σ H R=>tl σ H fun x H1=>∃a,x = .ref a/\(∃xs,ak K H1 a xs)/\R (rE K a) H1
def MA (K:PySem.W.Frag) (tl:TE):TI:=fun σ H R=>tl σ H fun x H1=>∃a,x = .ref a/\(∃xs,aG K H1 a xs)/\R (xA K a) H1
theorem gC {l:Expr}{tl:TE} (hl:PE X l tl):PI X tg l (Ma X.K tl):=by
 intro pins s σ H R I h;refine aA (hl pins s σ H _ I h) fun v s1 ⟨x,H1,I1,r1,q1⟩=>?_;obtain⟨a,e,⟨xs,hq⟩,q⟩:=q1;subst e;cases r1
 obtain⟨its,rv,p,hz⟩:=I1.list hq;refine yL p.isList ?_;refine⟨s1.heap.objs.size,[s1.heap.objs.size],_,_,H1,rfl,I1.kept (t':=s1.toks) fun b o e=>aT _ e,Uv a _,⟨_,bZ _ rfl,rfl,rfl⟩,fun b hb=>?_,q⟩;have e:b=s1.heap.objs.size:=by simpa using hb
 subst e;exact I1.kq (aO _) (I1.ar.fresh (aO _))
theorem jN {l:Expr}{tl:TE} (hl:PE X l tl):PI X tg l (MA X.K tl):=by
 intro pins s σ H R I h;refine aA (hl pins s σ H _ I h) fun v s1 ⟨x,H1,I1,r1,q1⟩=>?_;obtain⟨a,e,⟨xs,hq⟩,q⟩:=q1;subst e;cases r1
 obtain⟨its,rv,p,hz⟩:=I1.tuple hq;refine wpAny_pyIter_tuple (show s1.heap.IsTuple a its.toArray from p) ?_;refine⟨s1.heap.objs.size,[s1.heap.objs.size],_,_,H1,rfl,I1.kept (t':=s1.toks) fun b o e=>aT _ e,Tv a _,⟨_,bZ _ rfl,rfl,rfl⟩,fun b hb=>?_,q⟩;have e:b=s1.heap.objs.size:=by simpa using hb
 subst e;exact I1.kq (aO _) (I1.ar.fresh (aO _))
theorem Vl {pins:List (Addr×Obj)}{σ:St}{H:Hp}{s:Shared}{R:It->Hp->Prop}{E:Value->Shared->Prop}{lo hi:Int}{t u v:Tok}{tk:Nat} (I:Inv X pins σ H s) (h1 : -(2 ^ 62)<=lo) (h2:lo < 2 ^ 62) (h3 : -(2 ^ 62)<=hi) (h4:hi < 2 ^ 62)
  (q:R (rF lo (hi - lo).toNat) H):wpAny (model X.prog X.w) X.A (pyIter (.ref s.heap.objs.size)) (NQ X pins σ tg R) E { s with heap:=s.heap.push { cls:= .type "range",data:= .fields #[.int lo t,.int hi u,.int 1 v] },toks:=tk }:=by
 refine wpAny_pyIter_range (IsRange.new ..) (small_one h1 h2 h3 h4) ?_;have I1:Inv X pins σ H { s with heap:=s.heap.push { cls:= .type "range",data:= .fields #[.int lo t,.int hi u,.int 1 v] },toks:=tk }:=I.kept fun b o e=>aT _ e;refine⟨(s.heap.push { cls:= .type "range",data:= .fields #[.int lo t,.int hi u,.int 1 v] }).objs.size,[(s.heap.push { cls:= .type "range",data:= .fields #[.int lo t,.int hi u,.int 1 v] }).objs.size],_,_,H,rfl,
  I1.kept (t':=tk) fun b o e=>aT _ e,Tw _ lo (hi - lo).toNat,?_,fun b hb=>?_,q⟩
 ·have e1:lo+((0:Nat):Int) * 1=lo:=by simp
  have e2:(((hi - lo).toNat:Nat):Int) - ((0:Nat):Int)=Builtin.Range.rangeSize lo hi 1:=by rw[rangeSize_one];split <;> omega
  show IsRangeIter _ _ (lo+((0:Nat):Int) * 1) ((((hi - lo).toNat:Nat):Int) - ((0:Nat):Int)) 1;rw[e1,e2];exact bZ _ rfl
 ·have e:b=(s.heap.push { cls:= .type "range",data:= .fields #[.int lo t,.int hi u,.int 1 v] }).objs.size:=by simpa using hb
  subst e;exact I1.kq (aO _) (I1.ar.fresh (aO _))
def Yn (ta:TA):TI:=fun σ H R=>ta σ H fun vs H1=>∃j:Int,vs = [.int j] /\ -(2 ^ 62)<=j/\j < 2 ^ 62/\R (rF 0 j.toNat) H1
theorem nK {a:Expr}{ta:TA}{p pos:Pos} (hg:Gl X "range") (hm:X.mg "range" = none) (ha:PA X [a] ta) (hs:starEach [a] X.env = [(false,eval a X.env)]:=by rfl):PI X tg (.Call (.Name "range" p) [a] [] pos) (Yn ta):=by
 intro pins s σ H R I h;refine Call_ (oZ I hg hm boot_range (yM (aA (ha pos pins s σ H _ I h) fun us s1 ⟨vs,H1,I1,r1,q1⟩=>?_) hs rfl));obtain⟨j,e,q1,q2,q⟩:=q1;subst e;cases r1 with
 |cons r rr =>
  cases rr
  obtain⟨t,rfl⟩:=r;exact call_range_1 (Vl I1 (by omega) (by omega) q1 q2 (by simpa using q))
def ZM (wi:TI) (g:TG) (tb:TS):TS:=fun D σ H=>wi σ H fun J H1=>∃W:Nat->Nat->St->Hp->Prop,(∃m,W 0 m σ H1) /\ ∀i m σ H,W i m σ H ->
 (J.stop i H/\D.nx σ H)\/(J.go i H /\ ∃N:St->Hp->Prop,(∀aD H',N aD H' -> ∃m',m' < m/\W (i+1) m' aD H') /\ ∀x H',J.pK i H x H'->g x σ H' fun ir H2=>tb { D with nx:=N,ct:=N,bk:=D.nx } ir H2)
def tw (fp:List Addr) (h:Heap):List (Addr×Obj):=fp.filterMap fun b=>(h.get? b).map fun o=>(b,o)
theorem sG {fp:List Addr}{h:Heap}{b:Addr}{o:Obj} (hb:b∈fp) (e:h.get? b=some o):(b,o)∈tw fp h:=qp.mpr ⟨b,hb,by rw[e];rfl⟩
theorem Uw {fp:List Addr}{h:Heap}{p:Addr×Obj} (hp:p∈tw fp h):p.1∈fp/\h.get? p.1=some p.2:=by
 obtain⟨b,hb,e⟩:=qp.mp hp;cases q:h.get? b with
 |none=>rw[q]at e;cases e
 |some o =>
  rw[q]at e;have e':(b,o)=p:=gy e;subst e';exact⟨hb,q⟩
theorem Inv.pinned {pins:List (Addr×Obj)}{σ:St}{H:Hp}{s:Shared}{fp:List Addr} (I:Inv X pins σ H s) (hf:∀b∈fp,f9 X pins H b) (ho:∀b∈fp,∃o,s.heap.get? b=some o /\ ∀v,o.data ≠ .cell v):Inv X (pins++tw fp s.heap) σ H s:=
 I.K5 fun p hp=>(fb.mp hp).elim (fun z=>I.pin p (gk _ z)) fun z=>by
  obtain⟨hb,e⟩:=Uw z;obtain⟨f0,f1,f2,_⟩:=hf p.1 hb;obtain⟨o,e',d⟩:=ho p.1 hb;rw[e]at e';cases e';exact⟨e,f0,f1,f2,d⟩
theorem Inv.vU {pins pl:List (Addr×Obj)}{σ:St}{H:Hp}{s:Shared} (I:Inv X (pins++pl) σ H s):Inv X pins σ H s:=I.K5 fun p hp=>I.pin p (gk _ (lR _ hp))
theorem jO {iter:Expr}{body:List Stmt}{wi:TI}{g:TG}{tb:TS}{pos:Pos} (hp:PassesOwn (model X.prog X.w) X.A X.env X.xe) (hc:X.calm=true) (hi:PI X tg iter wi) (hg:PG X tg g) (hb:fB X body tb)
  (hs:∀x,foldedSetIterable iter X.env x=pure x:=by intro _;rfl):PS X (.For tg iter body [] pos) (ZM wi g tb):=by
 intro pins s σ H D I h;refine wpAny_For (aA (hi pins s σ H _ I h) fun v s1 h1=>aA h1 fun rD s2 h2=>?_) hs;obtain⟨it,fp,tn,J,H2,e,I2,T,jW,f2,W,⟨m0,w0⟩,turn⟩:=h2;subst e;have lA:∀ {H':Hp},(∀b∈fp,H' b=none) -> ∀b∈fp,f9 X pins H' b:=fun hn b hb=>⟨hn b hb,(f2 b hb).2⟩;refine codeAny_forLoop_any (fun n s'=>∃i aD H',Inv X pins aD H' s'/\tn i s'.heap/\(∀b∈fp,H' b=none)/\W i n aD H') ?_ m0 ⟨0,σ,H2,I2,jW,fun b hb=>(f2 b hb).1,w0⟩;rintro n s3 ⟨i,lF,H3,I3,pL,NR,w3⟩;rcases turn i n lF H3 w3 with⟨stop,qn⟩|⟨go,N,hN,step⟩
 ·refine vq hp (aA (T.done X rfl rfl rfl hc i pins s3 lF H3 X.xe I3 (lA NR) pL stop) fun r s4 ⟨hr,I4⟩=>?_)
  subst hr;exact vp ⟨lF,H3,I4,qn⟩
 ·refine vq hp (aA (T.item X rfl rfl rfl hc i pins s3 lF H3 X.xe I3 (lA NR) pL go) fun r s4 ⟨u,hr,h4⟩=>?_)
  subst hr;refine vq hp (aA h4 fun _ s5 ⟨x,H5,I5,r5,y5,om,rG⟩=>?_);have I5':=I5.pinned (lA rG) (T.obj _ _ om);refine vq hp (aA (hg _ s5 lF H5 x u _ I5' r5 (step x H5 y5)) fun _ s6 ⟨σ6,H6,I6,q6⟩=>?_);refine vq hp (aA (hb _ s6 σ6 H6 _ I6 q6) fun f s7 q7=>?_);have again:∀ {i4:St}{H7:Hp},Inv X (pins++tw fp s5.heap) i4 H7 s7->N i4 H7 -> ∃m,m < n /\ ∃i aD H',Inv X pins aD H' s7/\tn i s7.heap/\(∀b∈fp,H' b=none)/\W i m aD H':=fun {i4 H7} I7 n7=>by
   obtain⟨m',hm,w7⟩:=hN i4 H7 n7;refine⟨m',hm,i+1,i4,H7,I7.vU,T.keep _ _ _ om fun b hb o e=>(I7.pin (b,o) (gk _ (gk _ (sG hb e)))).1,fun b hb=>?_,w7⟩;obtain⟨o,e,d⟩:=T.obj _ _ om b hb;exact(I7.pin (b,o) (gk _ (gk _ (sG hb e)))).2.1
  cases f with
  |next=>obtain⟨i4,H7,I7,n7⟩:=q7;exact again I7 n7
  |cont=>obtain⟨i4,H7,I7,n7⟩:=q7;exact again I7 n7
  |brk=>obtain⟨i4,H7,I7,q7⟩:=q7;exact⟨i4,H7,I7.vU,q7⟩
  |ret v=>obtain⟨x7,i4,H7,I7,r7,q7⟩:=q7;exact⟨x7,i4,H7,I7.vU,r7,q7⟩
end
theorem CD {K:PySem.W.Frag}{a:Addr}{xs:List V}{g:TG}{tb:TS}{D:Ends}{σ:St}{H:Hp} (Pv:Nat->St->Hp->Prop) (h0:Pv 0 σ H) (hl:∀i σ H,i<=xs.length->Pv i σ H->ak K H a xs)
  (hs:∀i x σ H,xs[i]? = some x->Pv i σ H->g x σ H fun ir H2=>tb { D with nx:=Pv (i+1),ct:=Pv (i+1),bk:=D.nx } ir H2) (hd:∀σ H,Pv xs.length σ H->D.nx σ H) :
  ∃W:Nat->Nat->St->Hp->Prop,(∃m,W 0 m σ H) /\ ∀i m σ H,W i m σ H ->
   ((rE K a).stop i H/\D.nx σ H)\/((rE K a).go i H /\ ∃N:St->Hp->Prop,(∀aD H',N aD H' -> ∃m',m' < m/\W (i+1) m' aD H') /\ ∀x H',(rE K a).pK i H x H'->g x σ H' fun ir H2=>tb { D with nx:=N,ct:=N,bk:=D.nx } ir H2):=by
 refine⟨fun i m σ H=>m=xs.length - i/\i<=xs.length/\Pv i σ H,⟨xs.length,by simp,bG _,h0⟩,?_⟩
 rintro i m σ H ⟨rfl,hi,p⟩;have q:=hl i σ H hi p
 by_cases aP:i < xs.length
 ·refine .inr ⟨⟨xs,xs[i],q,by simp[aP]⟩,Pv (i+1),fun aD H' p'=>⟨xs.length - (i+1),by omega,rfl,aP,p'⟩,fun x H' y=>?_⟩
  obtain⟨e,y⟩:=y;subst e;exact hs i x σ _ (y xs q) p
 ·have e:i=xs.length:=by omega
  subst e;exact .inl ⟨⟨xs,q,aO _⟩,hd σ H p⟩
theorem qE {lo:Int}{n:Nat}{g:TG}{tb:TS}{D:Ends}{σ:St}{H:Hp} (Pv:Nat->St->Hp->Prop) (h0:Pv 0 σ H)
  (hs:∀i σ H,i < n->Pv i σ H->g (.int (lo+i)) σ H fun ir H2=>tb { D with nx:=Pv (i+1),ct:=Pv (i+1),bk:=D.nx } ir H2) (hd:∀σ H,Pv n σ H->D.nx σ H) :
  ∃W:Nat->Nat->St->Hp->Prop,(∃m,W 0 m σ H) /\ ∀i m σ H,W i m σ H ->
   ((rF lo n).stop i H/\D.nx σ H)\/((rF lo n).go i H /\ ∃N:St->Hp->Prop,(∀aD H',N aD H' -> ∃m',m' < m/\W (i+1) m' aD H') /\ ∀x H',(rF lo n).pK i H x H'->g x σ H' fun ir H2=>tb { D with nx:=N,ct:=N,bk:=D.nx } ir H2):=by
 refine⟨fun i m σ H=>m=n - i/\i<=n/\Pv i σ H,⟨n,by simp,bG _,h0⟩,?_⟩
 rintro i m σ H ⟨rfl,hi,p⟩
 by_cases aP:i < n
 ·refine .inr ⟨aP,Pv (i+1),fun aD H' p'=>⟨n - (i+1),by omega,rfl,aP,p'⟩,fun x H' y=>?_⟩
  obtain⟨e,y⟩:=y;subst e y;exact hs i σ _ aP p
 ·have e:i=n:=by omega
  subst e;exact .inl ⟨aO _,hd σ H p⟩
abbrev R2:=V->V->Hp->VK->Prop
def cE (X:Cx) (f:Value->Value->Sem Value) (r:R2):Prop:=
 ∀ (pins:List (Addr×Obj)) (s:Shared) (σ:St) (H:Hp) (x y:V) (v u:Value) (Q:VK),Inv X pins σ H s->RelV x v->RelV y u->r x y H Q ->
  wpAny (model X.prog X.w) X.A (f v u) (EP X pins σ Q) X.xe s
def EN (X:Cx) (f:Value->Sem Value) (r:V->Hp->VK->Prop):Prop:=
 ∀ (pins:List (Addr×Obj)) (s:Shared) (σ:St) (H:Hp) (x:V) (v:Value) (Q:VK),Inv X pins σ H s->RelV x v->r x H Q ->
  wpAny (model X.prog X.w) X.A (f v) (EP X pins σ Q) X.xe s
def dY (X:Cx) (f:Value) (r:List V->Hp->VK->Prop):Prop:=
 ∀ (pins:List (Addr×Obj)) (s:Shared) (σ:St) (H:Hp) (xs:List V) (us:List Value) (Q:VK),Inv X pins σ H s->Vals xs us->r xs H Q ->
  wpAny (model X.prog X.w) X.A (call f us) (EP X pins σ Q) X.xe s
def ZN (X:Cx) (r:V->Hp->(Bool->Hp->Prop)->Prop):Prop:=
 ∀ (pins:List (Addr×Obj)) (s:Shared) (σ:St) (H:Hp) (x:V) (v:Value) (Q:Bool->Hp->Prop),Inv X pins σ H s->RelV x v->r x H Q ->
  wpAny (model X.prog X.w) X.A (truthy v) (TP X pins σ Q) X.xe s
def Ap (r:R2) (ta tb:TE):TE:=fun σ H Q=>ta σ H fun x H1=>tb σ H1 fun y H2=>r x y H2 Q
def tUn (r:V->Hp->VK->Prop) (ta:TE):TE:=fun σ H Q=>ta σ H fun x H1=>r x H1 Q
def rI (C:Int->Int->Prop) (g:Int->Int->V):R2:=fun x y H Q=>∃i j,x = .int i/\y = .int j/\C i j/\Q (g i j) H
def pM (g:Int->Int->V):R2:=fun x y H Q=>∃i j,x = .int i/\y = .int j/\Q (g i j) H
def rU (g:Int->V):V->Hp->VK->Prop:=fun x H Q=>∃i,x = .int i/\Q (g i) H
section
variable{X:Cx}{a b c:Expr}{ta tb tc:TE}{pos:Pos}
theorem DW (ha:PE X a ta) (hb:PE X b tb) {pins:List (Addr×Obj)}{s:Shared}{σ:St}{H:Hp}{R:V->V->Hp->Prop} (I:Inv X pins σ H s)
  (h:ta σ H fun x H1=>tb σ H1 fun y H2=>R x y H2) {Q:Value->Shared->Prop}{f:Value->Value->Sem Value}
  (hf:∀v u s2 x y H2,Inv X pins σ H2 s2->RelV x v->RelV y u->R x y H2->wpAny (model X.prog X.w) X.A (f v u) Q X.xe s2) :
  wpAny (model X.prog X.w) X.A (eval a X.env) (fun v aY=>wpAny (model X.prog X.w) X.A (eval b X.env) (fun u lz=>wpAny (model X.prog X.w) X.A (f v u) Q X.xe lz) X.xe aY) X.xe s:=by
 refine aA (ha pins s σ H _ I h) fun v s1 ⟨x,H1,I1,r1,q1⟩=>?_;refine aA (hb pins s1 σ H1 _ I1 q1) fun u s2 ⟨y,H2,I2,r2,q2⟩=>?_;exact hf v u s2 x y H2 I2 r1 r2 q2
theorem cG {op:Operator}{r:R2} (ho:cE X (binaryOp op) r) (ha:PE X a ta) (hb:PE X b tb):PE X (.BinOp a op b pos) (Ap r ta tb):=by
 intro pins s σ H Q I h;exact wpAny_BinOp (DW ha hb I h fun v u s2 x y H2 I2 rx ry q=>ho pins s2 σ H2 x y v u Q I2 rx ry q)
theorem wM {op:UnaryOp}{r:V->Hp->VK->Prop} (ho:EN X (unaryOp op) r) (ha:PE X a ta):PE X (.UnaryOp op a pos) (tUn r ta):=by
 intro pins s σ H Q I h;exact UnaryOp_ (aA (ha pins s σ H _ I h) fun v s1 ⟨x,H1,I1,r1,q1⟩=>ho pins s1 σ H1 x v Q I1 r1 q1)
theorem Aq {f:Value->Value->Sem Value}{C:Int->Int->Prop}{g:Int->Int->Int}
  (rule:∀ (i j:Int) (t u:Tok) (s:Shared) (Q:Value->Shared->Prop) (E:Value->Shared->Prop),C i j->Q (.int (g i j) s.toks) { s with toks:=s.toks+1 }->wpAny (model X.prog X.w) X.A (f (.int i t) (.int j u)) Q E s) :
  cE X f (rI C fun i j=>.int (g i j)):=by
 intro pins s σ H x y v u Q I rx ry h;obtain⟨i,j,rfl,rfl,hc,q⟩:=h;obtain⟨t,rfl⟩:=rx;obtain⟨t',rfl⟩:=ry;exact rule i j t t' s _ _ hc ⟨.int (g i j),H,I.tok _,⟨_,rfl⟩,q⟩
theorem MB {f:Value->Value->Sem Value}{g:Int->Int->Int}
  (rule:∀ (i j:Int) (t u:Tok) (s:Shared) (Q:Value->Shared->Prop) (E:Value->Shared->Prop),Q (.int (g i j) s.toks) { s with toks:=s.toks+1 }->wpAny (model X.prog X.w) X.A (f (.int i t) (.int j u)) Q E s) :
  cE X f (pM fun i j=>.int (g i j)):=by
 intro pins s σ H x y v u Q I rx ry h;obtain⟨i,j,rfl,rfl,q⟩:=h;obtain⟨t,rfl⟩:=rx;obtain⟨t',rfl⟩:=ry;exact rule i j t t' s _ _ ⟨.int (g i j),H,I.tok _,⟨_,rfl⟩,q⟩
theorem z6 {f:Value->Value->Sem Value}{g:Int->Int->Bool}
  (rule:∀ (i j:Int) (t u:Tok) (s:Shared) (Q:Value->Shared->Prop) (E:Value->Shared->Prop),Q (.bool (g i j)) s->wpAny (model X.prog X.w) X.A (f (.int i t) (.int j u)) Q E s) :
  cE X f (pM fun i j=>.bl (g i j)):=by
 intro pins s σ H x y v u Q I rx ry h;obtain⟨i,j,rfl,rfl,q⟩:=h;obtain⟨t,rfl⟩:=rx;obtain⟨t',rfl⟩:=ry;exact rule i j t t' s _ _ ⟨.bl (g i j),H,I,rfl,q⟩
def ZO (i j:Int):Prop:=0 < j/\j < 1073741824
def ZP (i j:Int):Prop:=0<=j/\j<=1000000/\i.natAbs < 2 ^ 64
def DX (i j:Int):Prop:=(-(2 ^ 64) < i/\i < 2 ^ 64)\/(-(2 ^ 64) < j/\j < 2 ^ 64)
theorem DX.ok {i j:Int} (h:DX i j):IntMulOk i j:=by
 rcases h with⟨h1,h2⟩|⟨h1,h2⟩
 ·exact .of_left (intBits_le_64 h1 h2)
 ·exact .of_right (intBits_le_64 h1 h2)
theorem pq:cE X (binaryOp .Add) (pM fun i j=>.int (i+j)):=MB fun _ _ _ _ _ _ _ q=>add_int q
theorem LL:cE X (binaryOp .Sub) (pM fun i j=>.int (i - j)):=MB fun _ _ _ _ _ _ _ q=>sub_int q
theorem Dr:cE X (binaryOp .Mult) (rI DX fun i j=>.int (i * j)):=Aq fun _ _ _ _ _ _ _ hc q=>mul_int q hc.ok
theorem K6:cE X (binaryOp .FloorDiv) (rI ZO fun i j=>.int (i / j)):=Aq fun i j _ _ _ _ _ hc q=>by
 have h1:(0:Int) < j:=hc.1;have h2:j < 1073741824:=hc.2;exact floordiv_int (by omega) (by rw[Int.fdiv_eq_ediv_of_nonneg i (by omega)];exact q) (.inl (PyProof.noPylong_small (by omega)))
theorem wo:cE X (binaryOp .Mod) (rI (fun _ j=>0 < j) fun i j=>.int (i % j)):=Aq fun i j _ _ _ _ _ hc q=>by
 have h1:(0:Int) < j:=hc;exact mod_int' (by omega) (by rw[Int.fmod_eq_emod_of_nonneg i (by omega)];exact q)
theorem Xt:cE X (binaryOp .Pow) (rI ZP fun i j=>.int (i ^ j.toNat)):=Aq fun _ _ _ _ _ _ _ hc q=>pow_int_small hc.1 hc.2.1 hc.2.2 q
theorem unI {f:Value->Sem Value}{g:Int->Int}
  (rule:∀ (i:Int) (t:Tok) (s:Shared) (Q:Value->Shared->Prop) (E:Value->Shared->Prop),Q (.int (g i) s.toks) { s with toks:=s.toks+1 }->wpAny (model X.prog X.w) X.A (f (.int i t)) Q E s) :
  EN X f (rU fun i=>.int (g i)):=by
 intro pins s σ H x v Q I rx h;obtain⟨i,rfl,q⟩:=h;obtain⟨t,rfl⟩:=rx;exact rule i t s _ _ ⟨.int (g i),H,I.tok _,⟨_,rfl⟩,q⟩
theorem wq:EN X (unaryOp .USub) (rU fun i=>.int (-i)):=unI fun _ _ _ _ _ q=>neg_int q
end
def MC:V->V->Bool
 |.aF,.aF=>true|.aF,.int _=>true|.int _,.aF=>true|.aF,.bl _=>true|.bl _,.aF=>true|.aF,.str _=>true|.str _,.aF=>true
 |.int _,.int _=>true|.bl _,.bl _=>true|.str _,.str _=>true|.jy _,.jy _=>true
 |.int _,.str _=>true|.str _,.int _=>true|.bl _,.str _=>true|.str _,.bl _=>true
 |_,_=>false
def rEq:R2:=fun x y H Q=>MC x y=true/\Q (.bl (decide (x=y))) H
def rNe:R2:=fun x y H Q=>MC x y=true/\Q (.bl (!decide (x=y))) H
theorem K8 {i j:Int}:decide (V.int i=V.int j)=(i==j):=by
 rw[vt];simp
theorem LM {i j:Bool}:decide (V.bl i=V.bl j)=(i==j):=by
 rw[vt];simp
theorem K9 {i j:Str}:decide (V.str i=V.str j)=(i==j):=by
 rw[vt];simp
theorem K' {i j:Array UInt8}:decide (V.jy i=V.jy j)=(i.toList==j.toList):=by
 rw[vt];cases i
 cases j
 simp
section
variable{X:Cx}{a b c:Expr}{ta tb tc:TE}{pos:Pos}
theorem cL {pins:List (Addr×Obj)}{σ:St}{H:Hp}{s:Shared}{Q:VK}{k k':Bool} (I:Inv X pins σ H s) (q:Q (.bl k) H) (e:k=k'):EP X pins σ Q (.bool k') s:=by
 subst e;exact⟨.bl k,H,I,rfl,q⟩
theorem zU:cE X (compareOp .Eq) rEq:=by
 intro pins s σ H x y v u Q I rx ry h;obtain⟨hs,q⟩:=h;cases x with
 |aF =>
  cases rx
  cases y with
  |aF=>cases ry;exact PySem.EqNone.eq_none_none (cL I q (by simp))
  |bl j=>cases ry;exact PySem.EqNone.eq_none_bool (cL I q (by simp))
  |int j=>obtain⟨t',rfl⟩:=ry;exact PySem.EqNone.eq_none_int (cL I q (by simp))
  |str j=>obtain⟨t',rfl⟩:=ry;exact PySem.EqNone.eq_none_str (cL I q (by simp))
  |_=>exact absurd (show false=true from hs) cP
 |bl i =>
  cases rx
  cases y with
  |aF=>cases ry;exact PySem.EqNone.eq_bool_none (cL I q (by simp))
  |bl j=>cases ry;exact eq_bool (cL I q LM)
  |str j=>obtain⟨t',rfl⟩:=ry;exact PySem.EqMixed.eq_bool_str (cL I q (by simp))
  |_=>exact absurd (show false=true from hs) cP
 |int i =>
  obtain⟨t,rfl⟩:=rx;cases y with
  |aF=>cases ry;exact PySem.EqNone.eq_int_none (cL I q (by simp))
  |int j=>obtain⟨t',rfl⟩:=ry;exact eq_int (cL I q K8)
  |str j=>obtain⟨t',rfl⟩:=ry;exact PySem.EqMixed.eq_int_str (cL I q (by simp))
  |_=>exact absurd (show false=true from hs) cP
 |str i =>
  obtain⟨t,rfl⟩:=rx;cases y with
  |aF=>cases ry;exact PySem.EqNone.eq_str_none (cL I q (by simp))
  |bl j=>cases ry;exact PySem.EqMixed.eq_str_bool (cL I q (by simp))
  |int j=>obtain⟨t',rfl⟩:=ry;exact PySem.EqMixed.eq_str_int (cL I q (by simp))
  |str j=>obtain⟨t',rfl⟩:=ry;exact eq_str (cL I q K9)
  |_=>exact absurd (show false=true from hs) cP
 |jy i =>
  obtain⟨t,rfl⟩:=rx;cases y with
  |jy j=>obtain⟨t',rfl⟩:=ry;exact PySem.W.eq_bytes (cL I q K')
  |_=>exact absurd (show false=true from hs) cP
 |_=>cases y <;> exact absurd (show false=true from hs) cP
theorem wN:cE X (compareOp .NotEq) rNe:=by
 intro pins s σ H x y v u Q I rx ry h;obtain⟨hs,q⟩:=h;cases x with
 |aF =>
  cases rx
  cases y with
  |aF=>cases ry;exact PySem.EqNone.ne_none_none (cL I q (by simp))
  |bl j=>cases ry;exact PySem.EqNone.ne_none_bool (cL I q (by simp))
  |int j=>obtain⟨t',rfl⟩:=ry;exact PySem.EqNone.ne_none_int (cL I q (by simp))
  |str j=>obtain⟨t',rfl⟩:=ry;exact PySem.EqNone.ne_none_str (cL I q (by simp))
  |_=>exact absurd (show false=true from hs) cP
 |bl i =>
  cases rx
  cases y with
  |aF=>cases ry;exact PySem.EqNone.ne_bool_none (cL I q (by simp))
  |bl j=>cases ry;exact ne_bool (cL I q (eO not LM))
  |str j=>obtain⟨t',rfl⟩:=ry;exact PySem.EqMixed.ne_bool_str (cL I q (by simp))
  |_=>exact absurd (show false=true from hs) cP
 |int i =>
  obtain⟨t,rfl⟩:=rx;cases y with
  |aF=>cases ry;exact PySem.EqNone.ne_int_none (cL I q (by simp))
  |int j=>obtain⟨t',rfl⟩:=ry;exact ne_int (cL I q (eO not K8))
  |str j=>obtain⟨t',rfl⟩:=ry;exact PySem.EqMixed.ne_int_str (cL I q (by simp))
  |_=>exact absurd (show false=true from hs) cP
 |str i =>
  obtain⟨t,rfl⟩:=rx;cases y with
  |aF=>cases ry;exact PySem.EqNone.ne_str_none (cL I q (by simp))
  |bl j=>cases ry;exact PySem.EqMixed.ne_str_bool (cL I q (by simp))
  |int j=>obtain⟨t',rfl⟩:=ry;exact PySem.EqMixed.ne_str_int (cL I q (by simp))
  |str j=>obtain⟨t',rfl⟩:=ry;exact ne_str (cL I q (eO not K9))
  |_=>exact absurd (show false=true from hs) cP
 |jy i =>
  obtain⟨t,rfl⟩:=rx;cases y with
  |jy j=>obtain⟨t',rfl⟩:=ry;exact PySem.W.ne_bytes (cL I q (eO not K'))
  |_=>exact absurd (show false=true from hs) cP
 |_=>cases y <;> exact absurd (show false=true from hs) cP
theorem zV:cE X (compareOp .Lt) (pM fun i j=>.bl (decide (i < j))):=z6 fun _ _ _ _ _ _ _ q=>lt_int q
theorem Mb:cE X (compareOp .LtE) (pM fun i j=>.bl (decide (i<=j))):=z6 fun _ _ _ _ _ _ _ q=>le_int q
theorem Mc:cE X (compareOp .Gt) (pM fun i j=>.bl (decide (j < i))):=z6 fun _ _ _ _ _ _ _ q=>gt_int q
theorem Yo:cE X (compareOp .GtE) (pM fun i j=>.bl (decide (j<=i))):=z6 fun _ _ _ _ _ _ _ q=>ge_int q
theorem zK:cE X (compareOp .Is) (fun x y H Q=>y = .aF/\Q (.bl (decide (x = .aF))) H):=by
 intro pins s σ H x y v u Q I rx ry h;obtain⟨rfl,q⟩:=h;cases ry
 refine is_none_gen (cL I q ?_);cases x <;> first
  |(cases rx;rfl)
  |(obtain⟨t,rfl⟩:=rx;rfl)
theorem Wd:cE X (compareOp .IsNot) (fun x y H Q=>y = .aF/\Q (.bl (!decide (x = .aF))) H):=by
 intro pins s σ H x y v u Q I rx ry h;obtain⟨rfl,q⟩:=h;cases ry
 refine isnot_none_gen (cL I q ?_);cases x <;> first
  |(cases rx;rfl)
  |(obtain⟨t,rfl⟩:=rx;rfl)
theorem cZ (b:Expr) {op:CmpOp} (h:op ≠ .In:=by decide) (h2:op ≠ .NotIn:=by decide):behindInMarks op b=false:=by
 have e1:(op==CmpOp.In)=false:=by cases op <;> first|rfl|exact absurd rfl h
 have e2:(op==CmpOp.NotIn)=false:=by cases op <;> first|rfl|exact absurd rfl h2
 cases b <;> simp[behindInMarks,e1,e2]
theorem jo {op:CmpOp}{r:R2} (ho:cE X (compareOp op) r) (ha:PE X a ta) (hb:PE X b tb) (hm:behindInMarks op b=false):PE X (.Compare a [op] [b] pos) (Ap r ta tb):=by
 intro pins s σ H Q I h;exact wpAny_Compare1 (DW ha hb I h fun v u s2 x y H2 I2 rx ry q=>ho pins s2 σ H2 x y v u Q I2 rx ry q) hm
def Md (t:TE):TT:=fun σ H Q=>t σ H fun x H'=>∃k,x = .bl k/\Q k H'
theorem d5 {op:CmpOp}{r:R2} (ho:cE X (compareOp op) r) (ha:PE X a ta) (hb:PE X b tb) (hm:behindInMarks op b=false):PT X (.Compare a [op] [b] pos) (Md (Ap r ta tb)):=by
 intro pins s σ H Q I h;refine wpAny_isTrue_Compare1 (aA (ha pins s σ H _ I h) fun v s1 ⟨x,H1,I1,r1,q1⟩=>aA (hb pins s1 σ H1 _ I1 q1) fun u s2 ⟨y,H2,I2,r2,q2⟩ =>
  aA (ho pins s2 σ H2 x y v u _ I2 r1 r2 q2) fun c s3 ⟨z,H3,I3,r3,k,e,q3⟩=>?_) hm
 subst e;cases r3
 exact lT ⟨H3,I3,q3⟩
def LN (r r':R2) (ta tb tc:TE):TE:=fun σ H Q=>ta σ H fun x H1=>tb σ H1 fun y H2=>r x y H2 fun z H3=>∃k,z = .bl k /\
 (if k=true then tc σ H3 fun w' H4=>r' y w' H4 Q else Q (.bl false) H3)
theorem Vm {op rH:CmpOp}{r r':R2} (ho:cE X (compareOp op) r) (gG:cE X (compareOp rH) r') (ha:PE X a ta) (hb:PE X b tb) (hc:PE X c tc)
  (hm:lastMarks [op,rH] [b,c]=false:=by with_unfolding_all rfl):PE X (.Compare a [op,rH] [b,c] pos) (LN r r' ta tb tc):=by
 intro pins s σ H Q I h;refine Compare_chain (aA (ha pins s σ H _ I h) fun v s1 ⟨x,H1,I1,r1,q1⟩=>chain_link (aA (hb pins s1 σ H1 _ I1 q1) fun u s2 ⟨y,H2,I2,r2,q2⟩ =>
  aA (ho pins s2 σ H2 x y v u _ I2 r1 r2 q2) fun d s3 ⟨z,H3,I3,r3,k,e,q3⟩=>?_)) hm
 subst e;cases r3
 refine lT ?_;cases k with
 |false=>exact ite_ff ⟨.bl false,H3,I3,rfl,q3⟩
 |true=>exact ite_tt (chain_last (aA (hc pins s3 σ H3 _ I3 q3) fun w' s4 ⟨z',H4,I4,r4,q4⟩=>gG pins s4 σ H4 y z' u w' Q I4 r2 r4 q4))
theorem Vn {op rH:CmpOp}{r r':R2} (ho:cE X (compareOp op) r) (gG:cE X (compareOp rH) r') (ha:PE X a ta) (hb:PE X b tb) (hc:PE X c tc)
  (hm:lastMarks [op,rH] [b,c]=false:=by with_unfolding_all rfl):PT X (.Compare a [op,rH] [b,c] pos) (Md (LN r r' ta tb tc)):=by
 intro pins s σ H Q I h;refine isTrue_chain (aA (ha pins s σ H _ I h) fun v s1 ⟨x,H1,I1,r1,q1⟩=>test_link (aA (hb pins s1 σ H1 _ I1 q1) fun u s2 ⟨y,H2,I2,r2,q2⟩ =>
  aA (ho pins s2 σ H2 x y v u _ I2 r1 r2 q2) fun d s3 ⟨z,H3,I3,r3,k,e,q3⟩=>?_)) hm
 subst e;cases r3
 refine lT ?_;cases k with
 |false =>
  obtain⟨k',e',q'⟩:=q3;cases e'
  exact ite_ff ⟨H3,I3,q'⟩
 |true =>
  refine ite_tt (test_last (aA (hc pins s3 σ H3 _ I3 q3) fun w' s4 ⟨z',H4,I4,r4,q4⟩=>aA (gG pins s4 σ H4 y z' u w' _ I4 r2 r4 q4) fun d' s5 ⟨z2,H5,I5,r5,k2,e2,q5⟩=>?_));subst e2;cases r5
  exact lT ⟨H5,I5,q5⟩
def DY (K:PySem.W.Frag) (x:V) (H:Hp) (k:Bool):Prop:=
 match x with
 |.aF=>k=false
 |.bl b=>k=b
 |.int i=>k=(i != 0)
 |.str y=>y.length<=sizeLine/\k=((y.length:Int) != 0)
 |.jy y=>y.size<=sizeLine/\k=((y.size:Int) != 0)
 |.ref p=>(∃xs,ak K H p xs/\k = !xs.isEmpty)\/(∃xs,aG K H p xs/\k = !xs.isEmpty) \/ ∃kvs,H p=some (.dK kvs)/\k = !kvs.isEmpty
 |_=>False
theorem Tx {κ:Type}{kvs:List (κ×V)}{vs:List (κ×Value)} (r:KV kvs vs):(!vs.isEmpty) = !kvs.isEmpty:=by
 cases r <;> rfl
theorem B9 {xs:List V}{its:List Value} (r:Vals xs its):(!its.toArray.isEmpty) = !xs.isEmpty:=by
 cases r <;> simp
theorem qM:(sizeLine:Nat) < 2 ^ 63:=by rw[aE];decide
theorem Xu:ZN X (fun x H Q=>∃k,DY X.K x H k/\Q k H):=by
 intro pins s σ H x v Q I rx h;obtain⟨k,e,q⟩:=h;have hl:=qM;have hs:sizeLine=16777216:=aE;cases x with
 |aF =>
  cases rx
  have e':k=false:=e;subst e';exact truthy_none ⟨H,I,q⟩
 |bl b =>
  cases rx
  have e':k=b:=e;subst e';exact lT ⟨H,I,q⟩
 |int i =>
  obtain⟨t,rfl⟩:=rx;have e':k=(i != 0):=e;subst e';exact PySem.P.truthy_int ⟨H,I,q⟩
 |str y =>
  obtain⟨t,rfl⟩:=rx;obtain⟨hy,e'⟩:y.length<=sizeLine/\k=((y.length:Int) != 0):=e;subst e';exact PySem.P.truthy_str (by omega) ⟨H,I.tok _,q⟩
 |jy y =>
  obtain⟨t,rfl⟩:=rx;obtain⟨hy,e'⟩:y.size<=sizeLine/\k=((y.size:Int) != 0):=e;subst e';exact PySem.W.truthy_bytes (by omega) ⟨H,I.tok _,q⟩
 |ref p =>
  cases rx
  have e':(∃xs,ak X.K H p xs/\k = !xs.isEmpty)\/(∃xs,aG X.K H p xs/\k = !xs.isEmpty) \/ ∃kvs,H p=some (.dK kvs)/\k = !kvs.isEmpty:=e;rcases e' with⟨xs,hx,e'⟩|⟨xs,hx,e'⟩|⟨kvs,hx,e'⟩
  ·subst e'
   obtain⟨its,r,pl,hz⟩:=I.list hx;have hlen:=r.length;exact wpAny_truthy_list pl.isList (by simp only[cQ];omega) ⟨H,I.tok _,by rw[B9 r];exact q⟩
  ·subst e'
   obtain⟨its,r,pl,hz⟩:=I.tuple hx;have hlen:=r.length;exact truthy_tuple pl (by simp only[cQ];omega) ⟨H,I.tok _,by rw[B9 r];exact q⟩
  ·subst e'
   obtain⟨hz,hS,vs,r,m⟩:kvs.length<=sizeLine/\(p==sysModules)=false /\ ∃vs,KV kvs vs/\s.heap.DictOf (bB X.prog X.w) p vs:=I.ar p _ hx;have hlen:kvs.length=vs.length:=jF r;exact wpAny_truthy_dict hS m (by omega) ⟨H,I.tok _,by rw[Tx r];exact q⟩
 |_=>exact(show False from e).elim
theorem sO (ha:PE X a ta) (he:∀whole,isTrue a X.env whole=(do let v <- whole;standAt a.pos;holding [v] (truthy v))) :
  PT X a (fun σ H Q=>ta σ H fun x H'=>∃k,DY X.K x H' k/\Q k H'):=by
 intro pins s σ H Q I h;exact isTrue_plain (aA (ha pins s σ H _ I h) fun v s1 ⟨x,H1,I1,r1,q1⟩=>Xu pins s1 σ H1 x v Q I1 r1 q1) (he _)
theorem Jh:cE X (binaryOp .Add) (fun x y H Q=>∃i j,x = .str i/\y = .str j/\i.length+j.length<=sizeLine/\Q (.str (i++j)) H):=by
 intro pins s σ H x y v u Q I rx ry h;obtain⟨i,j,rfl,rfl,hz,q⟩:=h;obtain⟨t,rfl⟩:=rx;obtain⟨t',rfl⟩:=ry;exact add_str (fun t' tk=>⟨.str (i++j),H,I.tok _,⟨_,rfl⟩,q⟩) hz
theorem vals1 {x:V}{us:List Value} (r:Vals [x] us):∃u,us = [u]/\RelV x u:=by
 cases r with
 |cons r1 r2=>cases r2;exact⟨_,rfl,r1⟩
theorem vals2 {x y:V}{us:List Value} (r:Vals [x,y] us):∃u w',us = [u,w']/\RelV x u/\RelV y w':=by
 cases r with
 |cons r1 r2 =>
  cases r2 with
  |cons r3 r4=>cases r4;exact⟨_,_,rfl,r1,r3⟩
theorem Kl:dY X (.builtin "abs") (fun xs H Q=>∃i,xs = [.int i]/\Q (.int (if i < 0 then -i else i)) H):=by
 intro pins s σ H xs us Q I r h;obtain⟨i,rfl,q⟩:=h;obtain⟨u,rfl,t,rfl⟩:=vals1 r;exact call_abs_int fun u tk=>⟨.int (if i < 0 then -i else i),H,I.tok _,⟨_,rfl⟩,q⟩
theorem JC (hc:X.calm=true):dY X (.builtin "max") (fun xs H Q=>∃i j,xs = [.int i,.int j]/\Q (.int (if j > i then j else i)) H):=by
 intro pins s σ H xs us Q I r h;obtain⟨i,j,rfl,q⟩:=h;obtain⟨u,w',rfl,⟨t,rfl⟩,⟨t',rfl⟩⟩:=vals2 r;refine max_two_ints (I.ok.hd hc) fun h' tk k=>⟨_,H,I.kept k,?_,q⟩
 by_cases hj:j > i
 ·rw[aB hj,aB hj];exact⟨_,rfl⟩
 ·rw[au hj,au hj];exact⟨_,rfl⟩
theorem Ci (hc:X.calm=true):dY X (.builtin "min") (fun xs H Q=>∃i j,xs = [.int i,.int j]/\Q (.int (if j < i then j else i)) H):=by
 intro pins s σ H xs us Q I r h;obtain⟨i,j,rfl,q⟩:=h;obtain⟨u,w',rfl,⟨t,rfl⟩,⟨t',rfl⟩⟩:=vals2 r;refine min_two_ints (I.ok.hd hc) fun h' tk k=>⟨_,H,I.kept k,?_,q⟩
 by_cases hj:j < i
 ·rw[aB hj,aB hj];exact⟨_,rfl⟩
 ·rw[au hj,au hj];exact⟨_,rfl⟩
end
structure DZ (h:Heap) (x dx C:Addr) (mA:Str->Option Value):Prop where
 obj:h.get? x=some (PySem.W.instObj C dx)
 ns:h.Ns1 dx mA
 ne:dx≠x
theorem sI {h:Heap}{dx:Addr}{mA:Str->Option Value} (n:h.Ns1 dx mA):∃od,h.get? dx=some od /\ ∀name,PySem.W.lookIn name od=some (mA name):=by
 obtain⟨o,es,ep,ho,hd,hk,_,hm⟩:=n;refine⟨o,ho,fun name=>?_⟩;have e:=hm name;unfold nsFind findBy at e;rw[<-Array.find?_toList]at e;unfold PySem.W.lookIn;rw[hd]
 dsimp only
 split
 ·rename_i y q
  rw[q]at e;exact eO some e
 ·rename_i q
  rw[q]at e;have a:es.toList.any (·.refKey)=false:=by
   rw[QR];intro y hy;obtain⟨z,t,ju⟩:=hk y (Array.mem_toList_iff.mp hy);simp[DictEntry.refKey,ju]
  have a' : ¬ es.toList.any (·.refKey)=true:=by rw[a];exact cP
  rw[au a'];exact eO some e
theorem DZ.look {h:Heap}{x dx C:Addr}{mA:Str->Option Value} (I:DZ h x dx C mA):∃od,PySem.W.InstAt h x (PySem.W.instObj C dx) C (some od) /\ ∀name,PySem.W.lookIn name od=some (mA name):=
 let ⟨od,ho,hl⟩:=sI I.ns
 ⟨od,⟨I.obj,rfl,rfl,ho⟩,hl⟩
def iG (f:Str) (v:V):List (Str×V)->List (Str×V)
 |[]=>[(f,v)]
 |(g,x)::r=>if g=f then (g,v)::r else (g,x)::iG f v r
theorem IX (f g:Str) (v:V):∀fs:List (Str×V),(iG f v fs).lookup g=if g=f then some v else fs.lookup g
 |[]=>by
  show List.lookup g [(f,v)]=_
  by_cases h:g=f
  ·have hb:(g==f)=true:=cT.mpr h
   simp only[List.lookup,hb,aB h]
  ·have hb:(g==f)=false:=nB.mpr h
   simp only[List.lookup,hb,au h]
 |(k,x)::r=>by
  have ih:=IX f g v r;rw[show iG f v ((k,x)::r)=(if k=f then (k,v)::r else (k,x)::iG f v r) from rfl]
  by_cases hk:k=f
  ·rw[aB hk]
   by_cases h:g=k
   ·have hb:(g==k)=true:=cT.mpr h
    simp only[List.lookup,hb,aB (h.trans hk)]
   ·have hb:(g==k)=false:=nB.mpr h
    simp only[List.lookup,hb,au (fun e:g=f=>h (e.trans hk.symm))]
  ·rw[au hk]
   by_cases h:g=k
   ·have hb:(g==k)=true:=cT.mpr h
    simp only[List.lookup,hb,au (fun e:g=f=>hk (h.symm.trans e))]
   ·have hb:(g==k)=false:=nB.mpr h
    simp only[List.lookup,hb];exact ih
theorem Cj (f:Str) (v:V):∀fs:List (Str×V),f∈(iG f v fs).map (·.1) /\ ∀g,g∈fs.map (·.1)->g∈(iG f v fs).map (·.1)
 |[]=>⟨by simp[iG],fun g h=>by simp at h⟩
 |(k,x)::r=>by
  obtain⟨i1,i2⟩:=Cj f v r;rw[show iG f v ((k,x)::r)=(if k=f then (k,v)::r else (k,x)::iG f v r) from rfl]
  by_cases hk:k=f
  ·rw[aB hk]
   subst hk;exact⟨by simp,fun g h=>by simpa using h⟩
  ·rw[au hk]
   refine⟨?_,fun g h=>?_⟩
   ·rw[cA]
    exact bJ _ i1
   ·rw[cA]at h ⊢
    rcases a9.mp h with e|e
    ·exact a9.mpr (.inl e)
    ·exact bJ _ (i2 g e)
theorem IY (f:Str) (v:V):∀fs:List (Str×V),(iG f v fs).length<=fs.length+1
 |[]=>by simp[iG]
 |(k,x)::r=>by
  have ih:=IY f v r;rw[show iG f v ((k,x)::r)=(if k=f then (k,v)::r else (k,x)::iG f v r) from rfl]
  by_cases hk:k=f
  ·rw[aB hk,d4,d4];omega
  ·rw[au hk,d4,d4];omega
theorem ib.some_of {v:V}{o:Option Value} (r:ib (some v) o):∃u,o=some u/\RelV v u:=by
 cases o with
 |none=>exact(show False from r).elim
 |some u=>exact⟨u,rfl,r⟩
theorem Ux {v:V}{u:Value} (r:RelV v u):PySem.W.handedIn u=true:=by
 cases v with
 |aF=>cases (show u=Value.none from r);rfl
 |bl b=>cases (show u=Value.bool b from r);rfl
 |int i=>obtain⟨t,e⟩:=(show ∃t,u=Value.int i t from r);cases e;rfl
 |str x=>obtain⟨t,e⟩:=(show ∃t,u=Value.str x t from r);cases e;rfl
 |jy b=>obtain⟨t,e⟩:=(show ∃t,u=Value.bytes b t from r);cases e;rfl
 |jz b=>obtain⟨t,e⟩:=(show ∃t,u=Value.float b t from r);cases e;rfl
 |ref a=>cases (show u=Value.ref a from r);rfl
 |ty n=>cases (show u=Value.type n from r);rfl
section
variable{P:Program}{w:World}{H H':Hp}{h h':Heap}{a C dx:Addr}{fs fs':List (Str×V)}
theorem We (ar:cD P w H h) (e:H a=some (.ins C dx fs)):∃mA,DZ h a dx C mA/\(∀f,ib (fs.lookup f) (mA f))/\PySem.Within mA (fs.map (·.1))/\fs.length<=1000/\H dx=some (.own a):=by
 obtain⟨d,z,ne,ob,mA,n,r,q⟩:=(show bu P w H h a (.ins C dx fs) from ar a _ e);exact⟨mA,⟨ob,n,ne⟩,r,q,z,d⟩
end
structure EO (K:PySem.W.Frag) (C:Addr):Prop where
 pg:PySem.W.plainGet K C Str.empty=true
 hd:PySem.W.hasDictIn K C=true
 po:PySem.W.plainOver K C=true
 sa:PySem.W.findIn K (.ref C) "__setattr__" = some (some (.builtin "object.__setattr__"))
theorem EO.get {K:PySem.W.Frag}{C:Addr} (c:EO K C) (f:Str):PySem.W.plainGet K C f=true:=c.pg
section
variable{X:Cx}{pins:List (Addr×Obj)}{σ:St}{H:Hp}{s:Shared}{a C dx:Addr}{fs:List (Str×V)}{f:Str}{v:V}{A:Around}{E:Value->Shared->Prop}
theorem Wf {prog:Program}{w:World}{env:Env}{e:Expr}{f:Str}{pos:Pos}{s:Shared}{Q:Value->Shared->Prop} (hb:attributeBase e f env (eval e env)=eval e env)
  (h:wpAny (model prog w) A (eval e env) (fun o aY=>wpAny (model prog w) A (getAttr o f true) Q E aY) E s):wpAny (model prog w) A (eval (.Attribute e f pos) env) Q E s:=
 Attribute_any_ h (by rw[arm_eval_Attribute,hb])
end
section
variable{X:Cx}{pins:List (Addr×Obj)}{σ:St}{H:Hp}{s:Shared}{A:Around}{E:Value->Shared->Prop}{Q:Value->Shared->Prop}{c:Value}{b:Bool}
inductive jT (K:PySem.W.Frag) (H:Hp):V->Value->Prop where
 |aF:jT K H .aF (.type "NoneType")
 |bl (x:Bool):jT K H (.bl x) (.type "bool")
 |int (i:Int):jT K H (.int i) (.type "int")
 |str (x:Str):jT K H (.str x) (.type "str")
 |jz (x:UInt64):jT K H (.jz x) (.type "float")
 |lst {a:Addr}{xs:List V} (e:H a=some (.lst xs)):jT K H (.ref a) (.type "list")
 |dE {a:Addr}{o:Obj}{xs:List V} (e:H a=some (.dE o (.lst xs))):jT K H (.ref a) (.type "list")
 |tup {a:Addr}{xs:List V} (e:H a=some (.tup xs)):jT K H (.ref a) (.type "tuple")
 |dK {a:Addr}{kvs:List (Key×V)} (e:H a=some (.dK kvs)):jT K H (.ref a) (.type "dict")
 |dT {a:Addr}{kvs:List (List Key×V)} (e:H a=some (.dT kvs)):jT K H (.ref a) (.type "dict")
 |ins {a C dx:Addr}{fs:List (Str×V)} (e:H a=some (.ins C dx fs)) (cl:EO K C) (ha:PySem.W.findIn K (.ref C) "__class__" = some (some (.builtin "object.__class__")))
   (hn:PySem.W.specialIn K (.builtin "object.__class__") "__get__" = some (some (.builtin "getset_descriptor.__get__"))) (NS:PySem.W.takesIn K (.builtin "object.__class__")=some true)
   (hm:PySem.W.mroIn K C (.type "object")=some true):jT K H (.ref a) (.ref C)
theorem Uy {x:V}{u t:Value} (I:Inv X pins σ H s) (rx:RelV x u) (ty:jT X.K H x t) (e:PySem.W.kitOne X.K t c=some b) (h:∀tk,Q (.bool b) { s with toks:=tk }) :
  wpAny (model X.prog X.w) A (call (.builtin "isinstance") [u,c]) Q E s:=by
 cases ty with
 |aF=>cases (show u=Value.none from rx);exact nD PySem.W.kitx_none I.bq True.intro e (fun z=>nomatch z) h
 |bl y=>cases (show u=Value.bool y from rx);exact nD PySem.W.kitx_bool I.bq True.intro e (fun z=>nomatch z) h
 |int i=>obtain⟨t,q⟩:=(show ∃t,u=Value.int i t from rx);cases q;exact nD PySem.W.kitx_int I.bq True.intro e (fun z=>nomatch z) h
 |str y=>obtain⟨t,q⟩:=(show ∃t,u=Value.str y t from rx);cases q;exact nD PySem.W.kitx_str I.bq True.intro e (fun z=>nomatch z) h
 |jz y=>obtain⟨t,q⟩:=(show ∃t,u=Value.float y t from rx);cases q;exact nD PySem.W.kitx_float I.bq True.intro e (fun z=>nomatch z) h
 |@lst a xs ea =>
  cases (show u=Value.ref a from rx)
  obtain⟨_,_,n,_,h1⟩:=(show bu X.prog X.w H s.heap a (.lst xs) from I.ar a _ ea);exact nD PySem.W.kitx_list I.bq ⟨_,h1,rfl⟩ e (fun z=>nomatch z) h
 |@dE a ob xs ea =>
  cases (show u=Value.ref a from rx)
  obtain⟨_,_,_,n,_,h1⟩:=(show bu X.prog X.w H s.heap a (.dE ob (.lst xs)) from I.ar a _ ea);exact nD PySem.W.kitx_list I.bq ⟨_,h1,rfl⟩ e (fun z=>nomatch z) h
 |@tup a xs ea =>
  cases (show u=Value.ref a from rx)
  obtain⟨_,_,_,p⟩:=(show bu X.prog X.w H s.heap a (.tup xs) from I.ar a _ ea);obtain⟨o,h1,h2,_⟩:=p;exact nD PySem.W.kitx_tuple I.bq ⟨o,h1,h2⟩ e (fun z=>nomatch z) h
 |@dK a kvs ea =>
  cases (show u=Value.ref a from rx)
  obtain⟨_,_,vs,_,p⟩:=(show bu X.prog X.w H s.heap a (.dK kvs) from I.ar a _ ea);obtain⟨o,es,ep,h1,h2,_⟩:=p;exact nD PySem.W.kitx_dict I.bq ⟨o,h1,h2.1⟩ e (fun z=>nomatch z) h
 |@dT a kvs ea =>
  cases (show u=Value.ref a from rx)
  obtain⟨_,_,xs,_,o,es,ep,h1,h2,_⟩:=(show bu X.prog X.w H s.heap a (.dT kvs) from I.ar a _ ea);exact nD PySem.W.kitx_dict I.bq ⟨o,h1,h2.1⟩ e (fun z=>nomatch z) h
 |@ins a C dx fs ea cl ha hn NS hm =>
  cases (show u=Value.ref a from rx)
  obtain⟨mA,O,_⟩:=We I.ar ea;obtain⟨od,J,_⟩:=O.look;exact nD (PySem.W.kitx_own (cl.get _) cl.hd ha hn NS hm) I.bq J e (fun z=>nomatch z) h
end
structure aV (k:Nat) (A:Around):Prop where
 hd:A.handled=none
 dp:A.depth+3 * k+5 < recursionLimit
 un:A.units+16 * k+200 < cLine
 gd:A.guards=some []
theorem aV.mono {j k:Nat}{A:Around} (r:aV k A) (h:j<=k):aV j A:=⟨r.hd,by have:=r.dp;omega,by have:=r.un;omega,r.gd⟩
theorem aV.deeper {k:Nat}{A:Around} (r:aV (k+1) A) (env:Env):aV k (A.deeper env):=
 ⟨r.hd,by have:=r.dp;show A.depth+1+3 * k+5 < _;omega,by have:=r.un;show A.units+3+16 * k+200 < _;omega,by first|exact r.gd|simp[Around.deeper,r.gd]⟩
theorem Ji {A:Around}{C:Addr}{us:List Value}{kw:List (Str×Value)}:(A.under (.builtin "type.__call__" ⟨.ref C::us,kw⟩)).depth=A.depth+1:=by
 first|rfl|simp[Around.under,Code.weight,Code.isCreation,Code.isGuard,Code.isCaller,Code.frames,Code.isFrame,guardIds]
theorem Jj {A:Around}{C:Addr}{us:List Value}{kw:List (Str×Value)}:(A.under (.builtin "type.__call__" ⟨.ref C::us,kw⟩)).units=A.units+1:=by
 first|rfl|simp[Around.under,Code.cUnits,Code.frames,Code.isFrame]
theorem IZ {A:Around}{C:Addr}{us:List Value}{kw:List (Str×Value)} (h:A.guards=some []):(A.under (.builtin "type.__call__" ⟨.ref C::us,kw⟩)).guards=some []:=by
 first|exact h|(simp[Around.under,Code.guards,Code.isGuard,guardIds,pushGuards,h])
theorem aV.make {k:Nat}{A:Around} (r:aV (k+1) A) (C:Addr) (us:List Value) (kw:List (Str×Value)):aV k (A.under (.builtin "type.__call__" ⟨.ref C::us,kw⟩)):=
 ⟨r.hd,by have:=r.dp;rw[Ji];omega,by have:=r.un;rw[Jj];omega,IZ r.gd⟩
theorem aV.depth {k:Nat}{A:Around} (r:aV k A):A.depth < recursionLimit:=by have:=r.dp;omega
theorem aV.units {k:Nat}{A:Around} (r:aV k A):A.units+64 < cLine:=by have:=r.un;omega
def ZQ:TA:=fun _ H Q=>Q [] H
def Yp (ta:TE) (tr:TA):TA:=fun σ H Q=>ta σ H fun x H1=>tr σ H1 fun xs H2=>Q (x::xs) H2
section
variable{X:Cx}{e:Expr}{es:List Expr}{te:TE}{t:TA}{pos:Pos}
theorem ai:PA X [] ZQ:=fun _ _ _ _ H Q I h=>Calls.spliced_nil ⟨[],H,I,.nil,h⟩
theorem af (ha:PE X e te) (hr:PA X es t) (hs:starEach (e::es) X.env=(false,eval e X.env)::starEach es X.env:=by rfl):PA X (e::es) (Yp te t):=by
 intro pos pins s σ H Q I h;rw[hs];show wpAny _ _ (spliced ((false,eval e X.env)::backTo pos (starEach es X.env))) _ _ s;refine Calls.spliced_cons (aA (ha pins s σ H _ I h) fun u s1 ⟨x,H1,I1,r1,q1⟩=>?_);exact aA (hr pos pins s1 σ H1 _ I1 q1) fun us s2 ⟨xs,H2,I2,r2,q2⟩=>⟨x::xs,H2,I2,.cons r1 r2,q2⟩
def ZR (t:TA):TE:=fun σ H Q=>t σ H fun xs H1=>xs.length<=sizeLine /\ ∀p,H1 p=none->Q (.ref p) (upd H1 p (.tup xs))
def ZS (t:TA):TE:=fun σ H Q=>t σ H fun xs H1=>xs.length<=sizeLine /\ ∀p,H1 p=none->Q (.ref p) (upd H1 p (.lst xs))
theorem kj {x1} (h:PA X es t):PE X (.Tuple es x1 pos) (ZR t):=by
 intro pins s σ H Q I hq;refine wpAny_Tuple_spliced (aA (h pos pins s σ H _ I hq) fun us s1 ⟨xs,H1,I1,r,z,q⟩=>⟨by rw[<-r.length];exact z,?_⟩)
 have hf:H1 s1.heap.objs.size=none:=I1.ar.fresh (aO _);refine⟨.ref s1.heap.objs.size,upd H1 s1.heap.objs.size (.tup xs),I1.laid (t':=s1.toks) (fun b u e=>aT _ e) (aO _) ?_,rfl,q _ hf⟩;exact⟨z,us,r,⟨_,bZ _ rfl,rfl,_,rfl,rfl⟩⟩
theorem c8 (h:PA X es t):PE X (.List es pos) (ZS t):=by
 intro pins s σ H Q I hq;refine wpAny_List_spliced (aA (h pos pins s σ H _ I hq) fun us s1 ⟨xs,H1,I1,r,z,q⟩=>⟨by rw[<-r.length];exact z,?_⟩)
 have hf:H1 s1.heap.objs.size=none:=I1.ar.fresh (aO _);refine⟨.ref s1.heap.objs.size,upd H1 s1.heap.objs.size (.lst xs),I1.laid (t':=s1.toks) (fun b u e=>aT _ e) (aO _) ?_,rfl,q _ hf⟩;exact⟨z,us,0,r,bZ _ rfl⟩
end
abbrev Sp:=List V->Hp->VK->XK->Prop
abbrev ku:=List Env->Hp->Shared->XK->Value->Shared->Prop
structure n6 (P:Program) (w:World) (K:PySem.W.Frag) (mg:Str->Option Value) (base:Heap) (A:Around) (outer:List Env) (s:Shared) (H:Hp):Prop where
 frames:A.frames=some outer
 mod:Mod K mg base
 bs:∀b o,base.get? b=some o->s.heap.get? b=some o/\H b=none
 jV:base.objs.size<=s.heap.objs.size
 fZ:s.heap.FunFrames base outer
 kr:∀b∈cH outer,H b=none
 ar:cD P w H s.heap
 bare:AllBare s.gens
def CE (outer:List Env) (P:Program) (w:World) (H:Hp) (s:Shared) (Q:VK) (u:Value) (s':Shared):Prop:=
 ∃v H',s'.os=s.os/\AllBare s'.gens/\Un (cH outer) [] H H' s.heap s'.heap/\cD P w H' s'.heap/\RelV v u/\Q v H'
def CR (CX:ku) (outer:List Env) (P:Program) (w:World) (H:Hp) (s:Shared) (Q:VK) (E:XK) (r:Result) (s':Shared):Prop:=
 match r with
 |.ok (.ret u)=>CE outer P w H s Q u s'
 |.ok _=>False
 |.error e=>CX outer H s E e s'
structure aH (P:Program) (w:World) (K:PySem.W.Frag) (mg:Str->Option Value) (base:Heap) (CX:ku) (k:Nat) (f:Addr) (fd:FuncData) (ps:List Str) (sp:Sp):Prop where
 len:∀vs H Q E,sp vs H Q E->vs.length=ps.length
 run:∀ (A:Around) (outer:List Env) (s:Shared) (H:Hp) (args:Args) (us:List Value) (vs:List V) (Q:VK) (E:XK),aV k A->n6 P w K mg base A outer s H->BindsTo s fd args (ps.zip us)->Vals vs us->sp vs H Q E ->
  codeAny (model P w) A (.call (.ref f) args) (CR CX outer P w H s Q E) s
theorem n6.make {P:Program}{w:World}{K:PySem.W.Frag}{mg:Str->Option Value}{base:Heap}{A:Around}{outer:List Env}{s:Shared}{H:Hp} (e:n6 P w K mg base A outer s H) (C:Addr) (us:List Value) (kw:List (Str×Value)) :
  n6 P w K mg base (A.under (.builtin "type.__call__" ⟨.ref C::us,kw⟩)) outer s H:=⟨by first|exact e.frames|(simpa [Around.under,Code.envs,Code.isFrame,pushEnvs] using e.frames),e.mod,e.bs,e.jV,e.fZ,e.kr,e.ar,e.bare⟩
section
variable{X:Cx}{pins:List (Addr×Obj)}{σ:St}{H:Hp}{s s':Shared}
theorem Inv.xf (I:Inv X pins σ H s):n6 X.prog X.w X.K X.mg X.base X.A X.stack s H:=
 ⟨I.ok.frames,I.ok.mod,I.bs,dU I.ok.jV I.sz,I.stack,I.zD,I.ar,I.bare⟩
theorem Inv.after {Q:VK}{u:Value} (I:Inv X pins σ H s) (h:CE X.stack X.prog X.w H s Q u s'):EP X pins σ Q u s':=by
 obtain⟨v,H',os,bare,un,ar,r,q⟩:=h;obtain⟨hh,g,d,t,xB⟩:=s';obtain rfl:xB=s.os:=os;exact⟨v,H',I.call (h':=hh) (g':=g) (d':=d) (t':=t) (ch:= []) un ar bare (fun b z=>absurd z (by simp)),r,q⟩
end
def Me (sp:Sp) (pN:List V) (E:XK) (t:TA):TE:=fun σ H Q=>t σ H fun vs H1=>sp (vs++pN) H1 Q E
def Binds (K:PySem.W.Frag) (fd:FuncData) (ps:List Str) (ds:List Value):Prop:=
 ∀ (s:Shared) (us:List Value),K.In s.heap->(us++ds).length=ps.length->BindsTo s fd ⟨us,[]⟩ (ps.zip (us++ds))
theorem Binds.all {K:PySem.W.Frag}{fd:FuncData}{ps:List Str} (h:∀us:List Value,us.length=ps.length->bindArgs fd ⟨us,[]⟩=pure (ps.zip us)):Binds K fd ps []:=fun s us _ hl=>by
 rw[gP]at hl ⊢;exact .of_eq (h us hl)
def Passes (CX:ku) (X:Cx) (E:XK):Prop:= ∀ (pins:List (Addr×Obj)) (σ:St) (H:Hp) (s:Shared) (e:Value) (s':Shared),Inv X pins σ H s->CX X.stack H s E e s'->X.xe e s'
section
variable{X:Cx}{CX:ku}{k:Nat}{f C:Addr}{fd:FuncData}{ps:List Str}{sp:Sp}{pN:List V}{ds:List Value}{E:XK}{x m:Str}{p pos apos:Pos}{e o:Expr}{es:List Expr}{ta:TE}{t:TA}
theorem Xv {pins:List (Addr×Obj)}{σ:St}{H:Hp}{s:Shared}{Q:VK}{us:List Value}{vs:List V} (F:aH X.prog X.w X.K X.mg X.base CX k f fd ps sp) (hr:aV k X.A) (hb:Binds X.K fd ps ds) (hd:Vals pN ds) (hx:Passes CX X E)
  (I:Inv X pins σ H s) (r:Vals vs us) (h:sp (vs++pN) H Q E):wpAny (model X.prog X.w) X.A (call (.ref f) us) (EP X pins σ Q) X.xe s:=by
 have r2:Vals (vs++pN) (us++ds):=r.append hd;have hl:(us++ds).length=ps.length:=by rw[<-r2.length];exact F.len _ _ _ _ h
 refine oH (qq (F.run X.A X.stack s H ⟨us,[]⟩ (us++ds) (vs++pN) Q E hr I.xf (hb s us I.bq hl) r2 h) fun r s' hq=>?_);cases r with
 |error e=>exact hx pins σ H s e s' I hq
 |ok fl =>
  cases fl with
  |ret u=>exact I.after hq
  |next=>exact False.elim hq
  |brk=>exact False.elim hq
  |cont=>exact False.elim hq
theorem bf (F:aH X.prog X.w X.K X.mg X.base CX k f fd ps sp) (hr:aV k X.A) (hg:Gl X x) (hm:X.mg x=some (.ref f)) (hk:PySem.W.keepIn X.K (.ref f)=true) (hb:Binds X.K fd ps ds) (hd:Vals pN ds) (hx:Passes CX X E)
  (ha:PA X (e::es) t) (i5:(x==("__debug__" : Str))=false:=by decide) (he:starEach (e::es) X.env=(false,eval e X.env)::starEach es X.env:=by rfl) (cS:(backTo pos (starEach es X.env)).any (·.1)=false:=by rfl) :
  PE X (.Call (.Name x p) (e::es) [] pos) (Me sp pN E t):=by
 intro pins s σ H Q I h;refine oJ (mw I hg hm ?_ i5);refine PySem.W.callWith_K (h₀:=X.base) I.ok.mod.iq hk (aA (ha pos pins s σ H _ I h) fun us s1 ⟨vs,H1,I1,r,q⟩=>⟨I1.bq,?_⟩) he cS;exact Xv F hr hb hd hx I1 r q
end
structure b8 (N P:List Str) (sc:Scope):Prop where
 kind:sc.kind = .function
 co:sc.isCoroutine=false
 gen:sc.isGenerator=false
 nd:N.Nodup
 pre:N.take P.length=P
 par:∀x∈P,sc.names.lookup x=some .local\/sc.names.lookup x=some .cell
 Xw:∀y∈sc.names,y.2 ≠ .free
theorem JD {kindOf:Str->Option NameKind}{x:Str}:∀ {binds:List (Str×Value)}{m:Str->Option Value},(∀v,(x,v) ∉ binds)->bindL kindOf binds m x=m x
 |[],_,_=>rfl
 |(n,v)::r,m,h=>by
  unfold bindL;rw[JD fun w hw=>h w (bJ _ hw)];split
  ·have:x≠n:=by rintro rfl;exact h v aZ
   simp[this]
  ·rfl
theorem JE {kindOf:Str->Option NameKind}{x:Str}:∀ {binds:List (Str×Value)}{m:Str->Option Value},(∀v,(x,v) ∉ binds)->bindC kindOf binds m x=m x
 |[],_,_=>rfl
 |(n,v)::r,m,h=>by
  unfold bindC;rw[JE fun w hw=>h w (bJ _ hw)];split
  ·rfl
  ·have:x≠n:=by rintro rfl;exact h v aZ
   simp[this]
theorem JF {kindOf:Str->Option NameKind}{x:Str}{v:Value}:∀ {P:List Str}{vs:List Value}{i:Nat}{m:Str->Option Value},P.Nodup->P[i]? = some x->vs[i]? = some v->kindOf x=some .local ->
  bindL kindOf (P.zip vs) m x=some v
 |[],_,_,_,_,h,_,_=>by simp at h
 |_::_,[],_,_,_,_,h,_=>by simp at h
 |p::P,w::vs,0,m,nd,h1,h2,hk=>by
  simp at h1 h2;subst h1;subst h2;show bindL kindOf ((p,w)::P.zip vs) m p=_;unfold bindL;rw[JD fun v hv=>(eP.mp nd).1 (HJ hv).1,aB hk];simp
 |p::P,w::vs,i+1,m,nd,h1,h2,hk=>by
  show bindL kindOf ((p,w)::P.zip vs) m x=_;unfold bindL;exact JF (i:=i) (eP.mp nd).2 (by simpa using h1) (by simpa using h2) hk
theorem JG {kindOf:Str->Option NameKind}{x:Str}{v:Value}:∀ {P:List Str}{vs:List Value}{i:Nat}{m:Str->Option Value},P.Nodup->P[i]? = some x->vs[i]? = some v->kindOf x≠some .local ->
  bindC kindOf (P.zip vs) m x=some v
 |[],_,_,_,_,h,_,_=>by simp at h
 |_::_,[],_,_,_,_,h,_=>by simp at h
 |p::P,w::vs,0,m,nd,h1,h2,hk=>by
  simp at h1 h2;subst h1;subst h2;show bindC kindOf ((p,w)::P.zip vs) m p=_;unfold bindC;rw[JE fun v hv=>(eP.mp nd).1 (HJ hv).1,au hk];simp
 |p::P,w::vs,i+1,m,nd,h1,h2,hk=>by
  show bindC kindOf ((p,w)::P.zip vs) m x=_;unfold bindC;exact JG (i:=i) (eP.mp nd).2 (by simpa using h1) (by simpa using h2) hk
def start (N:List Str) (vs:List V):St:=vs.map some++List.replicate (N.length - vs.length) none
def jv (CX:ku) (P:Program) (w:World) (K:PySem.W.Frag) (mg:Str->Option Value) (base:Heap) (N:List Str) (qual:Str) (scope:Scope) (f:Addr) (cd:Value) (A:Around) (outer:List Env) (s:Shared) (H:Hp) (E:XK):Cx where
 prog:=P
 w:=w
 K:=K
 mg:=mg
 base:=base
 A:=A.deeper (envOfC qual scope s.heap.objs.size f cd)
 N:=N
 cC:=s
 iW:=H
 env:=envOfC qual scope s.heap.objs.size f cd
 outer:=outer
 stack:=envOfC qual scope s.heap.objs.size f cd::outer
 ex:= []
 calm:=true
 fn:=fun _=>true
 pn:= []
 xe:=fun e s'=>wpAny (model P w) (A.deeper (envOfC qual scope s.heap.objs.size f cd)) (leaving (envOfC qual scope s.heap.objs.size f cd) e) (fun _ lG=>CX outer H s E e lG) (fun e' lG=>CX outer H s E e' lG) s'
theorem CF {sc:Scope}{n:Nat}{x:Str} (h:sc.names.lookup x=some .cell):∃c,(cellsFrom n sc.names []).lookup x=some c:=by
 have q:=QS sc.names n [] (.inl h);exact ahE.mp q
theorem JH {CX:ku}{P:Program}{w:World}{K:PySem.W.Frag}{mg:Str->Option Value}{base:Heap}{N ps:List Str}{qual:Str}{scope:Scope}{f:Addr}{cd:Value}{A:Around}{outer:List Env}{s s1:Shared}{H:Hp}{E:XK}{us:List Value}{vs:List V}
  (S:b8 N ps scope) (hd:A.handled=none) (e0:n6 P w K mg base A outer s H) (hl:vs.length=ps.length) (r:Vals vs us)
  (x:InCallC s s.heap.objs.size (bindL (envOfC qual scope s.heap.objs.size f cd).kindOf (ps.zip us) fun _=>none) (cellsFrom (s.heap.objs.size+1) scope.names []) (bindC (envOfC qual scope s.heap.objs.size f cd).kindOf (ps.zip us) fun _=>none) s1) :
  Inv (jv CX P w K mg base N qual scope f cd A outer s H E) [] (start N vs) H s1:=by
 have cS:ps.length<=N.length:=by have:=eO List.length S.pre;rw[cK]at this;omega
 obtain⟨h1,tk,rfl,hk⟩:=x.done;have xC:∀b:Addr,b ∉ (jv CX P w K mg base N qual scope f cd A outer s H E).ex:=fun b z=>absurd (show b∈([]:List Addr) from z) (by simp)
 refine⟨⟨e0.mod,S.kind,rfl,rfl,aO _,fun y z c h1 h2=>?_,fun y hy=>?_,fun y c _ h=>?_,fun _=>hd,Around.frames_deeper e0.frames,.inr ⟨rfl,rfl⟩,fun b z=>absurd z (xC b),e0.bs,e0.jV,fun b _ _=>xC b,fun b z=>absurd z (xC b),e0.fZ,e0.kr⟩,
  rfl,e0.bare,Un.kept hk,⟨_,x.toInCall.ns,fun i y v h1 h2 h3=>?_⟩,fun y c h=>⟨_,x.cell y c h⟩,e0.ar.fresh (aO _),fun y c h=>?_,fun p hp=>absurd (show p∈([]:List (Addr×Obj)) from hp) (by simp),e0.ar.kept hk,?_⟩
 ·exact name_of_addr x.apart (oK h1) (oK h2)
 ·have hy:scope.names.lookup y=some .cell\/scope.names.lookup y=some .free:=hy
  rcases hy with hy|hy
  ·exact CF hy
  ·exact absurd rfl (S.Xw _ (oK hy))
 ·exact vo (x.above y c (oK h))
 ·have hi:i < vs.length:=by
   unfold start at h2
   by_cases hi:i < vs.length
   ·exact hi
   ·rw[ahF (by simpa using hi)]at h2
    rw[List.getElem?_replicate]at h2;split at h2 <;> cases h2
  have ha:vs[i]? = some v:=by
   unfold start at h2;rw[BA (by simpa using hi),gA]at h2
   cases e:vs[i]? with
   |none=>rw[e]at h2;cases h2
   |some a=>rw[e]at h2;cases h2;rfl
  obtain⟨u,hu,rv⟩:=r.get ha;have hp:ps[i]? = some y:=by
   rw[<-S.pre,List.getElem?_take_of_lt (by omega)];exact h1
  have NT:ps.Nodup:=by rw[<-S.pre];exact S.nd.sublist (yN _ _)
  refine⟨u,rv,?_⟩;rcases S.par y (gB hp) with k|k
  ·exact .inl ⟨k,JF NT hp hu k⟩
  ·obtain⟨c,e⟩:=CF (n:=s.heap.objs.size+1) k
   refine .inr ⟨.inl k,c,e,?_⟩;have q:=x.cell y c e;rw[JG NT hp hu (by show scope.names.lookup y≠_;rw[k];decide)]at q
   exact q
 ·exact e0.ar.fresh (vo (x.above y c (oK h)))
 ·unfold start
  show _=N.length;rw[de,ax,vv];omega
theorem Mf {CX:ku}{P:Program}{w:World}{K:PySem.W.Frag}{mg:Str->Option Value}{base:Heap}{k:Nat}{f:Addr}{name qual:Str}{params:Arguments}{body:List Stmt}{scope:Scope}{dV kV doc pm cdv ct oc:Value}{an od:Option Addr}
  {kB:Array (Option Value)}{N ps:List Str}{sp:Sp} (lk:K.lookup f=some ⟨oc,od,.func (PySem.W.fnOf name qual params body scope dV kV doc pm an cdv ct),kB⟩) (fh:PySem.W.codeIn K cdv qual=true) (S:b8 N ps scope)
  (len:∀vs H Q E,sp vs H Q E->vs.length=ps.length)
  (nV:∀ (A:Around) (outer:List Env) (s:Shared) (H:Hp) (vs:List V) (Q:VK) (E:XK),aV k (A.deeper (envOfC qual scope s.heap.objs.size f cdv))->sp vs H Q E ->
   ∃t,fB (jv CX P w K mg base N qual scope f cdv A outer s H E) body t/\t { nx:=fun _ H'=>Q .aF H',rt:=Q } (start N vs) H) :
  aH P w K mg base CX (k+1) f (PySem.W.fnOf name qual params body scope dV kV doc pm an cdv ct) ps sp:=by
 refine⟨len,fun A outer s H args us vs Q E hr e0 hb r jX=>?_⟩;have hl:=len _ _ _ _ jX;have KX:K.In s.heap:=e0.mod.iq.keeps fun b o e=>(e0.bs b o e).1;have lim:s.heap.NoLimit:=e0.mod.nolimit.keeps fun b o e=>(e0.bs b o e).1;have DF:∀y∈ps.zip us,scope.names.lookup y.1=some .local\/(scope.names.lookup y.1=some .cell/\((cellsFrom (s.heap.objs.size+1) scope.names []).lookup y.1).isSome=true):=fun⟨n,v⟩ hy=>by
  rcases S.par n (HJ hy).1 with q|q
  ·exact .inl q
  ·exact .inr ⟨q,QS _ _ _ (.inl q)⟩
 refine codeAny_call_function hr.depth (KX _ _ lk) rfl S.co S.gen rfl (PySem.W.codeRec_of KX fh) (hb _ _ _ _ ?_);refine ahI S.kind DF fun env he s1 x=>?_;subst he;refine⟨lim.keeps x.toInCall.keep,codeAny_func ?_⟩;obtain⟨t,ht,hq⟩:=nV A outer s H vs Q E (hr.deeper _) jX;have I:Inv (jv CX P w K mg base N qual scope f cdv A outer s H E) [] (start N vs) H s1:=JH S hr.hd e0 hl r x;refine k6 (ht [] s1 (start N vs) H _ I hq) (fun fl s' hs=>?_) fun e s' hs=>hs;have fin:∀ {aD:St}{H':Hp}{v:V}{u:Value},Inv (jv CX P w K mg base N qual scope f cdv A outer s H E) [] aD H' s'->RelV v u->Q v H'->CE outer P w H s Q u s':=
  fun {aD H' v u} J rv q=>⟨v,H',J.os,J.bare,J.base,J.ar,rv,q⟩
 cases fl with
 |ret u =>
  obtain⟨v,aD,H',J,rv,q⟩:=hs;exact fin J rv q
 |next =>
  obtain⟨aD,H',J,q⟩:=hs;exact fin (v:=V.aF) (u:=Value.none) J rfl q
 |brk =>
  obtain⟨_,_,_,q⟩:=hs;exact False.elim q
 |cont =>
  obtain⟨_,_,_,q⟩:=hs;exact False.elim q
section
variable{X:Cx}{x:Str}{p pos:Pos}{e:Expr}{es:List Expr}{t:TA}{id T:String}{r:List V->Hp->VK->Prop}
def NU (r:List V->Hp->VK->Prop) (t:TA):TE:=fun σ H Q=>t σ H fun vs H1=>r vs H1 Q
theorem a8 (hc:dY X (.builtin id) r) (hg:Gl X x) (hm:X.mg x=none) (hv:bootBuiltins x=some (.builtin id)) (ha:PA X (e::es) t) (hn:x ≠ "__name__" :=by decide) (i5:(x==("__debug__" : Str))=false:=by decide)
  (he:starEach (e::es) X.env=(false,eval e X.env)::starEach es X.env:=by rfl) (cS:(backTo pos (starEach es X.env)).any (·.1)=false:=by rfl):PE X (.Call (.Name x p) (e::es) [] pos) (NU r t):=by
 intro pins s σ H Q I h;refine oJ (oZ I hg hm hv ?_ hn i5);exact ahJ (aA (ha pos pins s σ H _ I h) fun us s1 ⟨vs,H1,I1,r1,q1⟩=>hc pins s1 σ H1 vs us Q I1 r1 q1) he cS
theorem cY (hc:dY X (.type T) r) (hg:Gl X x) (hm:X.mg x=none) (hv:bootBuiltins x=some (.type T)) (ha:PA X (e::es) t) (hn:x ≠ "__name__" :=by decide) (i5:(x==("__debug__" : Str))=false:=by decide)
  (he:starEach (e::es) X.env=(false,eval e X.env)::starEach es X.env:=by rfl) (cS:(backTo pos (starEach es X.env)).any (·.1)=false:=by rfl):PE X (.Call (.Name x p) (e::es) [] pos) (NU r t):=by
 intro pins s σ H Q I h;refine oJ (oZ I hg hm hv ?_ hn i5);exact yM (aA (ha pos pins s σ H _ I h) fun us s1 ⟨vs,H1,I1,r1,q1⟩=>hc pins s1 σ H1 vs us Q I1 r1 q1) he cS
end
end L2
namespace HT
open PySem PyProof.Rows
section
open PySem.SeqAt
open PySem.AutoSeq1 (wpAny_loadPart')
open PySem.MeetsSeq PySem.MeetsSeq2 PySem.MeetsSeq3
end
section
variable{prog:Program}{w:World}{A:Around}{E:Value->Shared->Prop}{s:Shared}
theorem Wg {t b:Addr}{vs ws:List Value}{Q:Value->Shared->Prop} (ht:IsTup s.heap t vs.toArray) (hb:IsTup s.heap b ws.toArray) (hv:vs ≠ [])
  (h1:ws = []->Q (.ref t) s) (h2:ws ≠ []->Q (.ref s.heap.objs.size) { s with heap:=s.heap.push { cls:= .type "tuple",data:= .seq (vs++ws).toArray } })
  (hsz:vs.length+ws.length<=sizeLine):wpAny (model prog w) A (binaryOp .Add (.ref t) (.ref b)) Q E s:=by
 obtain⟨⟨cls,dd,data,sl⟩,ho,hc,n,hd⟩:=id ht;obtain⟨⟨MD,Ar,data2,kE⟩,jY,fG,n2,hd2⟩:=id hb;simp only at hc hd fG hd2;subst hc hd fG hd2;have e:vs.toArray++ws.toArray=(vs++ws).toArray:=by simp
 by_cases hw:ws = []
 ·exact concat_meets ⟨_,ho,rfl⟩ ⟨_,jY,rfl⟩ QU QV QW QX (QY _ _)
   (tuple_addW1 t b vs.toArray ws.toArray n n2 dd Ar sl kE (by simpa using hv) (by simp[hw])) ⟨ho,jY,h1 hw⟩
 ·refine concat_meets ⟨_,ho,rfl⟩ ⟨_,jY,rfl⟩ QU QV QW QX (QY _ _)
   (tuple_addW2 t b vs.toArray ws.toArray n n2 dd Ar sl kE (by simpa using hv) (by simpa using hw) (by rw[cQ,cQ];exact hsz)) ⟨ho,jY,?_⟩
  rw[e];exact h2 hw
def gx (n d:Nat):Option Int->Nat
 |none=>d
 |some v=>if v < 0 then (v+(n:Int)).toNat else min v.toNat n
theorem CG (n d:Nat):gx n d none=d:=rfl
theorem C4 (n d k:Nat):gx n d (some (k:Int))=min k n:=by
 show(if (k:Int) < 0 then ((k:Int)+(n:Int)).toNat else min (k:Int).toNat n)=min k n;rw[au (by omega),nE]
end
end HT
namespace L2
open PySem PySem.Spec PyProof.Rows
abbrev TO:=St->Hp->(Option Int->Hp->Prop)->Prop
def PO (X:Cx) (e:Option Expr) (t:TO):Prop:=
 ∀ (pins:List (Addr×Obj)) (s:Shared) (σ:St) (H:Hp) (Q:Option Int->Hp->Prop),Inv X pins σ H s->t σ H Q ->
  wpAny (model X.prog X.w) X.A (evalPart e X.env) (fun u s'=>∃o H',Inv X pins σ H' s'/\IsPart u o/\Q o H') X.xe s
def Wh:TO:=fun _ H Q=>Q none H
def Yq (t:TE):TO:=fun σ H Q=>t σ H fun x H1=>∃i,x = .int i/\Q (some i) H1
section
variable{X:Cx}{e:Expr}{te:TE}{lo hi:Option Expr}{tl th:TO}{pos p2:Pos}
theorem mx:PO X none Wh:=by
 intro pins s σ H Q I h;rw[QZ];exact aj ⟨none,H,I,.none,h⟩
theorem ll (h:PE X e te):PO X (some e) (Yq te):=by
 intro pins s σ H Q I hw;rw[evalPart_some];refine aA (h pins s σ H _ I hw) fun u s1 ⟨x,H1,I1,r1,q1⟩=>?_;obtain⟨i,rfl,q⟩:=q1;obtain⟨t,rfl⟩:=r1;exact⟨some i,H1,I1,.int i t,q⟩
def As (X:Cx) (r:V->Option Int->Option Int->Hp->VK->Prop):Prop:=
 ∀ (pins:List (Addr×Obj)) (s:Shared) (σ:St) (H:Hp) (x:V) (v vl vu:Value) (lo hi:Option Int) (sl:Addr) (Q:VK),Inv X pins σ H s->RelV x v->s.heap.IsSliceOf sl vl vu .none->IsPart vl lo->IsPart vu hi->r x lo hi H Q ->
  ∃T id,typeLookup (.type T) "__getitem__" = pure (some (.builtin id))/\s.TypeIs v T/\wpAny (model X.prog X.w) X.A (getItem v (.ref sl)) (EP X pins σ Q) X.xe s
def tSl (r:V->Option Int->Option Int->Hp->VK->Prop) (te:TE) (tl th:TO):TE:=fun σ H Q=>te σ H fun x H1=>tl σ H1 fun l H2=>th σ H2 fun u H3=>r x l u H3 Q
theorem mi {r:V->Option Int->Option Int->Hp->VK->Prop} (hr:As X r) (he:PE X e te) (hl:PO X lo tl) (hu:PO X hi th):PE X (.Subscript e (.Slice lo hi none p2) pos) (tSl r te tl th):=by
 intro pins s σ H Q I h;refine Subscript_ (aA (he pins s σ H _ I h) fun v s1 ⟨x,H1,I1,r1,q1⟩=>?_);refine wpAny_Slice (aA (hl pins s1 σ H1 _ I1 q1) fun vl s2 ⟨l,H2,I2,pl,q2⟩=>aA (hu pins s2 σ H2 _ I2 q2) fun vu s3 ⟨u,H3,I3,pu,q3⟩=>?_);rw[QZ];refine aj ?_;have I4:Inv X pins σ H3 { s3 with heap:=s3.heap.push { cls:= .type "slice",data:= .fields #[vl,vu,.none] } }:=I3.kept (t':=s3.toks) fun b ob q=>aT _ q;obtain⟨T,id,hT,ht,hg⟩:=hr pins { s3 with heap:=s3.heap.push { cls:= .type "slice",data:= .fields #[vl,vu,.none] } } σ H3 x v vl vu l u s3.heap.objs.size Q I4 r1 (Heap.IsSliceOf.new ..) pl pu q3;show wpAny (model X.prog X.w) X.A (subscriptTail e (.Slice lo hi none p2) v (.ref s3.heap.objs.size)) (EP X pins σ Q) X.xe { s3 with heap:=s3.heap.push { cls:= .type "slice",data:= .fields #[vl,vu,.none] } };exact tail_any (ops:= [.ref s3.heap.objs.size,v]) ht hT hg (by with_unfolding_all rfl)
def d6 (xs:List V) (lo hi:Option Int):List V:=(xs.drop (HT.gx xs.length 0 lo)).take (HT.gx xs.length xs.length hi - HT.gx xs.length 0 lo)
theorem I0 (xs:List V) (lo hi:Option Int):(d6 xs lo hi).length<=xs.length:=by
 unfold d6;rw[cK,HK];omega
def Yr (K:PySem.W.Frag):R2:=fun x y H Q=>∃a b xs ys,x = .ref a/\y = .ref b/\aG K H a xs/\aG K H b ys/\xs ≠ []/\xs.length+ys.length<=sizeLine /\
 (ys = []->Q (.ref a) H)/\(ys ≠ [] -> ∀p,H p=none->Q (.ref p) (upd H p (.tup (xs++ys))))
theorem Vals.C5 {xs:List V}{us:List Value} (r:Vals xs us):us = [] ↔ xs = []:=by
 cases r with
 |nil=>simp
 |cons _ _=>simp
theorem Wj:cE X (binaryOp .Add) (Yr X.K):=by
 intro pins s σ H x y v u Q I rx ry h;obtain⟨a,b,xs,ys,rfl,rfl,ha,hb,hx,hz,q1,q2⟩:=h;cases rx
 cases ry
 obtain⟨its,r1,p1,_⟩:=I.tuple ha;obtain⟨t6,r2,p2,_⟩:=I.tuple hb;refine HT.Wg p1 p2 (fun z=>hx (r1.C5.mp z)) (fun z=>⟨.ref a,H,I,rfl,q1 (r2.C5.mp z)⟩) (fun z=>?_) (by rw[<-r1.length,<-r2.length];exact hz)
 refine⟨.ref s.heap.objs.size,_,I.laid (t':=s.toks) (o:= .tup (xs++ys)) (fun b ob q=>aT _ q) (aO _) ?_,rfl,q2 (fun w=>z (r2.C5.mpr w)) _ (I.ar.fresh (aO _))⟩;exact⟨by rw[de];exact hz,_,r1.append r2,qX.new _ _⟩
end
def oq (n:Nat) (i:Int):Option Nat:=if 0<=i then (if i < n then some i.toNat else none) else if -(n:Int)<=i then some (i+n).toNat else none
def cI {α:Type} (xs:List α) (i:Int):Option α:=(oq xs.length i).bind fun j=>xs[j]?
theorem La {n:Nat}{i:Int}{j:Nat} (h:oq n i=some j):seqIndex? i n=some j/\j < n /\ -(n:Int)<=i/\i < n:=by
 unfold oq at h
 by_cases h0:0<=i
 ·rw[aB h0]at h
  by_cases h1:i < n
  ·rw[aB h1]at h
   have e:i.toNat=j:=gy h;exact⟨by rw[BB h0 h1,e],by omega,by omega,h1⟩
  ·rw[au h1]at h;cases h
 ·rw[au h0]at h
  by_cases h1 : -(n:Int)<=i
  ·rw[aB h1]at h
   have e:(i+n).toNat=j:=gy h;exact⟨by rw[seqIndex_neg (by omega) h1,e],by omega,h1,by omega⟩
  ·rw[au h1]at h;cases h
theorem C6 {α:Type}{xs:List α}{i:Int}{v:α} (h:cI xs i=some v):∃j,seqIndex? i xs.length=some j/\xs[j]? = some v/\j < xs.length /\ -(xs.length:Int)<=i/\i < xs.length:=by
 unfold cI at h;cases e:oq xs.length i with
 |none=>rw[e]at h;cases h
 |some j =>
  rw[e]at h;obtain⟨h1,h2,h3,h4⟩:=La e;exact⟨j,h1,h,h2,h3,h4⟩
theorem eT {α:Type}{xs:List α}{j:Nat}{v:α} (h:xs[j]? = some v):cI xs (j:Int)=some v:=by
 have hj:j < xs.length:=(bU.mp h).1;have e:oq xs.length (j:Int)=some j:=by
  unfold oq;rw[aB (by omega),aB (by omega)];simp
 unfold cI;rw[e];exact h
theorem Vo {α:Type} (xs:List α) (v:α):cI (xs ++ [v]) (-1)=some v:=by
 have hl:(xs ++ [v]).length=xs.length+1:=by simp
 have e:oq (xs ++ [v]).length (-1)=some xs.length:=by
  unfold oq;rw[hl,au (by decide),aB (by omega)]
  congr 1
  omega
 unfold cI;rw[e];show(xs ++ [v])[xs.length]? = some v;simp
def Wl (b:Expr):Prop:= ∀o i,subscripted b false o i=operate [o,i] (getItem o i)
def uF (X:Cx) (r:R2):Prop:=
 ∀ (value slice:Expr) (pins:List (Addr×Obj)) (s:Shared) (σ:St) (H:Hp) (x y:V) (v u:Value) (Q:VK),Inv X pins σ H s->RelV x v->RelV y u->r x y H Q ->
  subscripted slice false v u=operate [v,u] (getItem v u)->wpAny (model X.prog X.w) X.A (subscriptTail value slice v u) (EP X pins σ Q) X.xe s
def NV (X:Cx) (id:String) (r:V->List V->Hp->VK->Prop):Prop:=
 ∀ (pins:List (Addr×Obj)) (s:Shared) (σ:St) (H:Hp) (x:V) (xs:List V) (v:Value) (us:List Value) (Q:VK),Inv X pins σ H s->RelV x v->Vals xs us->r x xs H Q ->
  wpAny (model X.prog X.w) X.A (call (.builtin id) (v::us)) (EP X pins σ Q) X.xe s
section
variable{X:Cx}{a b:Expr}{ta tb:TE}{pos:Pos}
theorem cz {r:R2} (hr:uF X r) (ha:PE X a ta) (hb:PE X b tb) (hs:Wl b):PE X (.Subscript a b pos) (Ap r ta tb):=by
 intro pins s σ H Q I h;exact Subscript_ (DW ha hb I h fun v u s2 x y H2 I2 rx ry q=>hr a b pins s2 σ H2 x y v u Q I2 rx ry q (hs _ _))
def ME (K:PySem.W.Frag):R2:=fun x y H Q=>∃p xs i v,x = .ref p/\y = .int i/\ak K H p xs/\cI xs i=some v/\Q v H
def MF (K:PySem.W.Frag):R2:=fun x y H Q=>∃p xs i v,x = .ref p/\y = .int i/\aG K H p xs/\cI xs i=some v/\Q v H
def ZT:R2:=fun x y H Q=>∃z i c,x = .str z/\y = .int i/\z.length<=sizeLine/\cI z.cps.toList i=some c/\Q (.str ⟨#[c]⟩) H
theorem fX:uF X (ME X.K):=by
 intro value slice pins s σ H x y v u Q I rx ry h hs;obtain⟨p,xs,i,z,rfl,rfl,hq,he,q⟩:=h;cases rx
 obtain⟨t,rfl⟩:=ry;obtain⟨its,r,pl,hz⟩:=I.list hq;obtain⟨j,h1,h2,h3,h4,h5⟩:=C6 he;obtain⟨w,ew,gH⟩:=r.get h2;have hl:=r.length;have hn:=qM;have fin:EP X pins σ Q w s:=⟨z,H,I,gH,q⟩
 by_cases h0:0<=i
 ·have hj:i.toNat=j:=by
   rw[BB h0 h5]at h1;exact gy h1
  exact item_listR pl.isList h0 (by omega) (by rw[hj];simpa using ew) fin hs
 ·have hj:(i+(its.toArray.size:Int)).toNat=j:=by
   rw[seqIndex_neg (by omega) h4]at h1
   rw[cQ,<-hl];exact gy h1
  exact subscriptTail_builtinR (x:=w) pl.isList.typeIs Q0.lookup
   (wpAny_getItem_list_neg (Q:=fun r s'=>r=w/\EP X pins σ Q r s') pl.isList (by omega) (by rw[cQ] <;> omega) (by omega) (by rw[hj];simpa using ew) ⟨rfl,fin⟩) hs
theorem mz:uF X (MF X.K):=by
 intro value slice pins s σ H x y v u Q I rx ry h hs;obtain⟨p,xs,i,z,rfl,rfl,hq,he,q⟩:=h;cases rx
 obtain⟨t,rfl⟩:=ry;obtain⟨its,r,pl,hz⟩:=I.tuple hq;obtain⟨j,h1,h2,h3,h4,h5⟩:=C6 he;obtain⟨w,ew,gH⟩:=r.get h2;have hl:=r.length;have hn:=qM;have fin:EP X pins σ Q w s:=⟨z,H,I,gH,q⟩;exact subscriptTail_builtinR (x:=w) pl.typeIs slot_tuple_getitem.lookup
  (getItem_tuple (j:=j) (Q:=fun r s'=>r=w/\EP X pins σ Q r s') pl (by omega) (by omega) (by rw[cQ,<-hl];exact h1) (by simpa using ew) ⟨rfl,fin⟩) hs
theorem LO:uF X ZT:=by
 intro value slice pins s σ H x y v u Q I rx ry h hs;obtain⟨z,i,c,rfl,rfl,hz,he,q⟩:=h;obtain⟨t,rfl⟩:=rx;obtain⟨t',rfl⟩:=ry;obtain⟨j,h1,h2,h3,h4,h5⟩:=C6 he;have hl:z.cps.toList.length=z.length:=by simp[Str.length]
 rw[hl]at h1 h4 h5;have hn:=qM;exact tail_any (typeIs_str s z t) slot_str_getitem.lookup (getItem_str (c:=c) (by
  have e1:decide (i < -(2 ^ 63:Int))=false:=jd (by omega)
  have e2:decide (i ≥ 2 ^ 63)=false:=jd (by omega)
  rw[e1,e2,Q1]) (by rw[h1];simpa using h2) ⟨.str ⟨#[c]⟩,H,I.tok _,⟨_,rfl⟩,q⟩) hs
theorem Tz (its:List Value) (n j:Nat) (u:Value):Obj.mapSeq (·.setIfInBounds j u) { cls:= .type "list",data:= .seq its.toArray n }={ cls:= .type "list",data:= .seq (its.set j u).toArray n }:=by
 simp[Obj.mapSeq]
theorem Inv.lst {pins:List (Addr×Obj)}{σ:St}{H:Hp}{s:Shared}{p:Addr}{xs:List V} (I:Inv X pins σ H s) (h:H p=some (.lst xs)) :
  ∃ (its:List Value) (n:Nat),Vals xs its/\s.heap.get? p=some { cls:= .type "list",data:= .seq its.toArray n }/\xs.length<=sizeLine:=by
 obtain⟨z,its,n,r,e⟩:=I.ar p _ h;exact⟨its,n,r,e,z⟩
theorem Inv.Xx {pins:List (Addr×Obj)}{σ:St}{H:Hp}{s:Shared}{p:Addr}{xs ys:List V}{its its':List Value}{n n':Nat}{f:Obj->Obj} (I:Inv X pins σ H s) (h:H p=some (.lst xs))
  (ho:s.heap.get? p=some { cls:= .type "list",data:= .seq its.toArray n }) (hf:f { cls:= .type "list",data:= .seq its.toArray n }={ cls:= .type "list",data:= .seq its'.toArray n' }) (r:Vals ys its') (hz:ys.length<=sizeLine) (t:Nat) :
  Inv X pins σ (upd H p (.lst ys)) { s with heap:=s.heap.update p f,toks:=t }:=by
 have e:(s.heap.update p f).get? p=some { cls:= .type "list",data:= .seq its'.toArray n' }:=by
  rw[lW f ho (by rw[hf] <;> rfl),hf]
 refine I.write (x:=p) (e:=p) (by rw[h];trivial) (.inl rfl) (fun b u hb q=>(iM _ _ (aQ hb)).trans q) ⟨_,e⟩ ?_
 exact⟨hz,its',n',r,e⟩
def Ys:V->V->V->Hp->(Hp->Prop)->Prop:=fun o i v H Q=>∃p xs k j,o = .ref p/\i = .int k/\H p=some (.lst xs)/\oq xs.length k=some j/\Q (upd H p (.lst (xs.set j v)))
theorem set_list:My X Ys:=by
 intro pins s σ H o i v ov iv u Q I ro ri rv h;obtain⟨p,xs,k,j,rfl,rfl,hp,hj,q⟩:=h;cases ro
 obtain⟨t,rfl⟩:=ri;obtain⟨its,n,r,ho,hz⟩:=I.lst hp;obtain⟨h1,h2,h3,h4⟩:=La hj;have hl:=r.length;have hn:=qM;have I':Inv X pins σ (upd H p (.lst (xs.set j v))) { s with heap:=s.heap.update p (Obj.mapSeq (·.setIfInBounds j u)) }:=
  I.Xx hp ho (Tz its n j u) (r.set rv j) (by rw[List.length_set];exact hz) s.toks
 by_cases h0:0<=k
 ·have hk:k.toNat=j:=by
   rw[BB h0 h4]at h1;exact gy h1
  exact PySem.W.ki_setAt ho h0 (by omega) (by rw[cQ,<-hl];exact h4) (by rw[hk];exact⟨_,I',q⟩)
 ·have hk:(k+(its.toArray.size:Int)).toNat=j:=by
   rw[seqIndex_neg (by omega) h3]at h1
   rw[cQ,<-hl];exact gy h1
  exact PySem.W.ki_setBack ho (by omega) (by rw[cQ,<-hl];exact h3) (by omega) (by rw[hk];exact⟨_,I',q⟩)
theorem SA (lo hi:Option Int) (n:Nat):(sliceBounds lo hi none n).1=((HT.gx n 0 lo:Nat):Int)/\(sliceBounds lo hi none n).2.1=((HT.gx n n hi:Nat):Int)/\(sliceBounds lo hi none n).2.2=1:=by
 refine⟨?_,?_,rfl⟩
 ·cases lo with
  |none=>simp[sliceBounds,HT.gx]
  |some i =>
   simp only[sliceBounds,HT.gx,Option.getD_none,show(1:Int) > 0 by decide,oM]
   by_cases h:i < 0
   ·simp only[h,oM] <;> omega
   ·simp only[h,j'] <;> omega
 ·cases hi with
  |none=>simp[sliceBounds,HT.gx]
  |some i =>
   simp only[sliceBounds,HT.gx,Option.getD_none,show(1:Int) > 0 by decide,oM]
   by_cases h:i < 0
   ·simp only[h,oM] <;> omega
   ·simp only[h,j'] <;> omega
theorem Sq (its:List Value) (lo hi:Option Int):slicePick its.toArray lo hi none=((its.drop (HT.gx its.length 0 lo)).take (HT.gx its.length its.length hi - HT.gx its.length 0 lo)).toArray:=by
 obtain⟨h1,h2,h3⟩:=SA lo hi its.toArray.size;unfold slicePick;rw[h1,h2,h3];simp only[sliceRange_one,pick_run,cQ] <;> rfl
def MG (K:PySem.W.Frag):V->Option Int->Option Int->Hp->VK->Prop:=fun x lo hi H Q=>∃a xs,x = .ref a/\ak K H a xs /\ ∀p,H p=none->Q (.ref p) (upd H p (.lst (d6 xs lo hi)))
theorem nP:As X (MG X.K):=by
 intro pins s σ H x v vl vu lo hi sl Q I rx hs pl pu h;obtain⟨a,xs,rfl,hx,q⟩:=h;cases rx
 obtain⟨its,r,ht,hz⟩:=I.list hx;have hlen:=r.length;refine⟨"list",_,Q0.lookup,ht.isList.typeIs,?_⟩;refine wpAny_getItem_list_slice ht.isList hs pl pu .none (by simp) ?_ (by rw[cQ] <;> omega)
 rw[Sq,<-hlen];refine⟨.ref s.heap.objs.size,_,I.laid (t':=s.toks) (o:= .lst (d6 xs lo hi)) (fun b ob q=>aT _ q) (aO _) ?_,rfl,q _ (I.ar.fresh (aO _))⟩;exact⟨dU (I0 xs lo hi) hz,_,0,(r.drop (HT.gx xs.length 0 lo)).take (HT.gx xs.length xs.length hi - HT.gx xs.length 0 lo),bZ _ rfl⟩
def mH:V->Bool
 |.aF=>true
 |.bl _=>true
 |.int _=>true
 |.str _=>true
 |_=>false
def pP:V->V->Bool
 |.aF,.aF=>true
 |.bl a,.bl b=>a==b
 |.bl a,.int b=>(if a then 1 else 0)==b
 |.int a,.bl b=>a==(if b then 1 else 0)
 |.int a,.int b=>a==b
 |.str a,.str b=>a==b
 |_,_=>false
theorem Xy {A:Around}{s:Shared}{y x:V}{u v:Value} (ry:RelV y u) (rx:RelV x v) (fy:mH y=true) (fx:mH x=true):SeqAt.EqAt A s u v (pP y x):=by
 cases y with
 |aF =>
  cases ry
  cases x with
  |aF=>cases rx;exact SeqAt.EqAt.same _
  |bl b=>cases rx;exact SeqAt.EqAt.none_bool b
  |int b=>obtain⟨t,rfl⟩:=rx;exact SeqAt.EqAt.none_int b t
  |str b=>obtain⟨t,rfl⟩:=rx;exact SeqAt.EqAt.none_str b t
  |_=>exact absurd (show false=true from fx) cP
 |bl a =>
  cases ry
  cases x with
  |aF=>cases rx;exact SeqAt.EqAt.bool_none a
  |bl b=>cases rx;exact SeqAt.EqAt.bool_bool a b
  |int b=>obtain⟨t,rfl⟩:=rx;exact SeqAt.EqAt.bool_int a b t
  |str b=>obtain⟨t,rfl⟩:=rx;exact SeqAt.EqAt.bool_str a b t
  |_=>exact absurd (show false=true from fx) cP
 |int a =>
  obtain⟨t',rfl⟩:=ry;cases x with
  |aF=>cases rx;exact SeqAt.EqAt.int_none a t'
  |bl b=>cases rx;exact SeqAt.EqAt.int_bool a t' b
  |int b=>obtain⟨t,rfl⟩:=rx;exact SeqAt.EqAt.int_int a t' b t
  |str b=>obtain⟨t,rfl⟩:=rx;exact SeqAt.EqAt.int_str a t' b t
  |_=>exact absurd (show false=true from fx) cP
 |str a =>
  obtain⟨t',rfl⟩:=ry;cases x with
  |aF=>cases rx;exact SeqAt.EqAt.str_none a t'
  |bl b=>cases rx;exact SeqAt.EqAt.str_bool a t' b
  |int b=>obtain⟨t,rfl⟩:=rx;exact SeqAt.EqAt.str_int a t' b t
  |str b=>obtain⟨t,rfl⟩:=rx;exact SeqAt.EqAt.str_str a t' b t
  |_=>exact absurd (show false=true from fx) cP
 |_=>exact absurd (show false=true from fy) cP
def gW (x:V) (u:Value):Bool:=match u with
 |.none=>pP .aF x
 |.bool b=>pP (.bl b) x
 |.int i _=>pP (.int i) x
 |.str z _=>pP (.str z) x
 |_=>false
theorem zL {x y:V}{u:Value} (r:RelV y u) (f:mH y=true):gW x u=pP y x:=by
 cases y with
 |aF=>cases r;rfl
 |bl b=>cases r;rfl
 |int i=>obtain⟨t,rfl⟩:=r;rfl
 |str z=>obtain⟨t,rfl⟩:=r;rfl
 |_=>exact absurd (show false=true from f) cP
theorem vZ {x:V}:∀ {xs:List V}{us:List Value},Vals xs us->xs.all mH=true->us.any (gW x)=xs.any fun y=>pP y x
 |_,_,.nil,_=>rfl
 |y::xs,u::us,.cons r t,f=>by
  rw[List.all_cons,vw]at f;rw[se,se,zL r f.1,vZ t f.2]
theorem sP {A:Around}{s:Shared}{x:V}{v:Value} (rx:RelV x v) (fx:mH x=true):∀ {xs:List V}{us:List Value},Vals xs us->xs.all mH=true -> ∀u∈us,SeqAt.EqAt A s u v (gW x u)
 |_,_,.nil,_=>fun u hu=>by cases hu
 |y::xs,u::us,.cons r t,f=>fun u' hu=>by
  rw[List.all_cons,vw]at f;rcases a9.mp hu with rfl|hu
  ·rw[zL r f.1];exact Xy r rx f.1 fx
  ·exact sP rx fx t f.2 u' hu
def Au (x:V) (xs:List V):Bool:=xs.any fun y=>pP y x
def Av (K:PySem.W.Frag) (neg:Bool):R2:=fun x y H Q=>∃p xs,y = .ref p/\(ak K H p xs\/aG K H p xs)/\mH x=true/\xs.all mH=true/\Q (.bl (if neg then !Au x xs else Au x xs)) H
theorem Ck:cE X (compareOp .In) (Av X.K false):=by
 intro pins s σ H x y v u Q I rx ry h;obtain⟨p,xs,rfl,hq,fx,fs,q⟩:=h;cases ry
 rcases hq with hq|hq
 ·obtain⟨its,r,pl,hz⟩:=I.list hq
  refine SeqAt.in_listAt (gW x) pl.isList (fun w hw=>sP rx fx r fs w (by simpa using hw)) ⟨.bl _,H,I,rfl,?_⟩
  rw[show its.toArray.any (gW x)=its.any (gW x) by simp,vZ r fs]
  exact q
 ·obtain⟨its,r,pl,hz⟩:=I.tuple hq
  refine SeqAt.in_tupleAt (gW x) pl (fun w hw=>sP rx fx r fs w (by simpa using hw)) ⟨.bl _,H,I,rfl,?_⟩
  rw[show its.toArray.any (gW x)=its.any (gW x) by simp,vZ r fs]
  exact q
theorem zb:cE X (compareOp .NotIn) (Av X.K true):=by
 intro pins s σ H x y v u Q I rx ry h;obtain⟨p,xs,rfl,hq,fx,fs,q⟩:=h;cases ry
 rcases hq with hq|hq
 ·obtain⟨its,r,pl,hz⟩:=I.list hq
  refine SeqAt.notIn_listAt (gW x) pl.isList (fun w hw=>sP rx fx r fs w (by simpa using hw)) ⟨.bl _,H,I,rfl,?_⟩
  rw[show its.toArray.any (gW x)=its.any (gW x) by simp,vZ r fs]
  exact q
 ·obtain⟨its,r,pl,hz⟩:=I.tuple hq
  refine SeqAt.notIn_tupleAt (gW x) pl (fun w hw=>sP rx fx r fs w (by simpa using hw)) ⟨.bl _,H,I,rfl,?_⟩
  rw[show its.toArray.any (gW x)=its.any (gW x) by simp,vZ r fs]
  exact q
theorem iE:dY X (.builtin "len") (fun xs H Q=>∃p ys,xs = [.ref p]/\(ak X.K H p ys\/aG X.K H p ys)/\Q (.int ys.length) H):=by
 intro pins s σ H xs us Q I r h;obtain⟨p,ys,rfl,hq,q⟩:=h;obtain⟨u,rfl,rx⟩:=vals1 r;cases rx
 have hn:=qM;rcases hq with hq|hq
 ·obtain⟨its,r',pl,hz⟩:=I.list hq
  have hlen:=r'.length;exact Calls.call_len_list pl.isList (by simp only[cQ] <;> omega) ⟨.int ys.length,H,I.tok _,⟨s.toks+1,by rw[cQ,hlen]⟩,q⟩
 ·obtain⟨its,r',pl,hz⟩:=I.tuple hq
  have hlen:=r'.length;exact len_tuple pl (by simp only[cQ] <;> omega) ⟨.int ys.length,H,I.tok _,⟨s.toks+1,by rw[cQ,hlen]⟩,q⟩
theorem SF:dY X (.builtin "len") (fun xs H Q=>∃z,xs = [.str z]/\z.length<=sizeLine/\Q (.int z.length) H):=by
 intro pins s σ H xs us Q I r h;obtain⟨z,rfl,hz,q⟩:=h;obtain⟨u,rfl,t,rfl⟩:=vals1 r;have hn:=qM;exact len_str (by omega) ⟨.int z.length,H,I.tok _,⟨_,rfl⟩,q⟩
theorem oU:dY X (.type "list") (fun xs H Q=>∃p ys,xs = [.ref p]/\(ak X.K H p ys\/aG X.K H p ys) /\ ∀l,H l=none->Q (.ref l) (upd H l (.lst ys))):=by
 intro pins s σ H xs us Q I r h;obtain⟨p,ys,rfl,hq,q⟩:=h;obtain⟨u,rfl,rx⟩:=vals1 r;cases rx
 have fin:∀ (its:List Value),Vals ys its->ys.length<=sizeLine -> ∀ (h':Heap) (c':Nat),(∀b o',s.heap.get? b=some o'->h'.get? b=some o') ->
   h'.get? s.heap.objs.size=some { cls:= .type "list",dict:=none,data:= .seq its.toArray c',slots:= #[] }->EP X pins σ Q (.ref s.heap.objs.size) { s with heap:=h' }:=fun its r' hz h' c' kp e =>
  ⟨.ref s.heap.objs.size,_,I.laid (t':=s.toks) kp (aO _) (show bu X.prog X.w _ h' _ (.lst ys) from⟨hz,its,c',r',e⟩),rfl,q _ (I.ar.fresh (aO _))⟩
 rcases hq with hq|hq
 ·obtain⟨its,r',pl,hz⟩:=I.list hq
  have hlen:=r'.length;obtain⟨o,ho,hc,n,hd⟩:=pl.isList;exact call_list_seq p (.inl rfl) ho hc hd (fun h' c' kp e=>fin its r' hz h' c' kp e) (by simp only[cQ] <;> omega)
 ·obtain⟨its,r',pl,hz⟩:=I.tuple hq
  have hlen:=r'.length;obtain⟨o,ho,hc,n,hd⟩:=pl;exact call_list_seq p (.inr rfl) ho hc hd (fun h' c' kp e=>fin its r' hz h' c' kp e) (by simp only[cQ] <;> omega)
theorem jl:dY X (.type "tuple") (fun xs H Q=>∃p ys,xs = [.ref p]/\((ak X.K H p ys /\ ∀l,H l=none->Q (.ref l) (upd H l (.tup ys)))\/(aG X.K H p ys/\Q (.ref p) H))):=by
 intro pins s σ H xs us Q I r h;obtain⟨p,ys,rfl,h⟩:=h;obtain⟨u,rfl,rx⟩:=vals1 r;cases rx
 rcases h with⟨hq,q⟩|⟨hq,q⟩
 ·obtain⟨its,r',pl,hz⟩:=I.list hq
  have hlen:=r'.length;refine call_tuple_list pl.isList (fun h' kp=>?_) (by simp only[cQ] <;> omega)
  have I1:Inv X pins σ H { s with heap:=h' }:=I.kept (t':=s.toks) kp;have I2:Inv X pins σ (upd H h'.objs.size (.tup ys)) { s with heap:=h'.push { cls:= .type "tuple",data:= .seq its.toArray } }:=
   I1.laid (t':=s.toks) (fun b o e=>aT _ e) (aO _) (show bu X.prog X.w _ _ _ (.tup ys) from⟨hz,its,r',qX.new _ _⟩)
  exact⟨.ref h'.objs.size,_,I2,rfl,q _ (I1.ar.fresh (aO _))⟩
 ·obtain⟨its,r',pl,hz⟩:=I.tuple hq
  exact call_tuple_same pl ⟨.ref p,H,I,rfl,q⟩
def NW (K:PySem.W.Frag) (T:String) (x:V) (H:Hp):Prop:=match x with
 |.str _=>T = "str"
 |.int _=>T = "int"
 |.ref p=>(T = "list" /\ ∃xs,ak K H p xs)\/(T = "tuple" /\ ∃o,K.lookup p=some o/\o.cls = .type "tuple" /\ o.dict=none) \/
   (T = "dict" /\ ((∃kvs,H p=some (.dK kvs)) \/ ∃kvs,H p=some (.dT kvs)))\/(T = "set" /\ ∃S n,H p=some (.set S n))\/(T = "tuple" /\ ∃xs,Rd H p (.tup xs))
 |_=>False
theorem Xz {pins:List (Addr×Obj)}{σ:St}{H:Hp}{s:Shared}{T:String}{x:V}{v:Value} (I:Inv X pins σ H s) (r:RelV x v) (ty:NW X.K T x H) :
  s.TypeIs v T /\ ∀a,v = .ref a -> ∃ob,s.heap.get? a=some ob/\ob.dict=none:=by
 cases x with
 |str z =>
  obtain⟨t,rfl⟩:=r;cases (show T = "str" from ty)
  exact⟨typeIs_str s z t,fun _ e=>nomatch e⟩
 |int i =>
  obtain⟨t,rfl⟩:=r;cases (show T = "int" from ty)
  exact⟨typeIs_int s i t,fun _ e=>nomatch e⟩
 |ref p =>
  cases r
  rcases ty with⟨rfl,xs,hq⟩|⟨rfl,o,hk,hc,hd⟩|⟨rfl,hk⟩|⟨rfl,S,n,hk⟩|⟨rfl,xs,hq⟩
  ·obtain⟨its,_,pl,_⟩:=I.list hq
   refine⟨pl.isList.typeIs,fun a e=>?_⟩;cases e
   obtain⟨o,n,e,c,hd,_⟩:=pl;exact⟨o,e,hd⟩
  ·refine⟨⟨o,I.bq p o hk,hc⟩,fun a e=>?_⟩
   cases e
   exact⟨o,I.bq _ o hk,hd⟩
  ·have z:∃o,s.heap.get? p=some o/\o.ExactDict:=by
    rcases hk with⟨kvs,hk⟩|⟨kvs,hk⟩
    ·obtain⟨_,_,_,_,o,_,_,e,ex,_⟩:=I.ar p _ hk
     exact⟨o,e,ex⟩
    ·obtain⟨_,_,_,_,o,_,_,e,ex,_⟩:=I.ar p _ hk
     exact⟨o,e,ex⟩
   obtain⟨o,e,ex⟩:=z;refine⟨⟨o,e,ex.1⟩,fun a e2=>?_⟩;cases e2
   exact⟨o,e,ex.2.1⟩
  ·obtain⟨o,_,_,_,e,ex,_⟩:=I.ar p _ hk
   refine⟨⟨o,e,ex.1⟩,fun a e2=>?_⟩;cases e2
   exact⟨o,e,ex.2.1⟩
  ·obtain⟨_,_,_,o,e,c,_,_,hd⟩:=hq.ok I.ar
   refine⟨⟨o,e,c⟩,fun a e2=>?_⟩;cases e2
   exact⟨o,e,hd⟩
 |_=>exact False.elim ty
def tBM (K:PySem.W.Frag) (T:String) (r:V->List V->Hp->VK->Prop) (to:TE) (t:TA):TE:=fun σ H Q=>to σ H fun x H1=>NW K T x H1/\t σ H1 fun xs H2=>r x xs H2 Q
variable{o e:Expr}{es:List Expr}{to:TE}{t:TA}{name:Str}{apos qZ:Pos}{T id:String}{r:V->List V->Hp->VK->Prop}
theorem iU (pa:PlainAttrs T) (slot:Slot T name id) (hty:typeOf (.builtin id)=pure (.type "method_descriptor")) (hm:NV X id r) (ho:PE X o to) (ha:PA X (e::es) t)
  (Yt:attributeBase o name X.env (eval o X.env)=eval o X.env:=by rfl)
  (D0:((backTo qZ (starEach (e::es) X.env)).all (fun x=>!x.1) && (backToKw qZ (keywordEach [] X.env)).all (fun x=>x.1.isSome)
   && decide ((e::es).length+([]:List Keyword).length+(if ([]:List Keyword).isEmpty then 0 else 1) < 30))=true:=by rfl)
  (Yu:(apos.endLine==qZ.line)=true:=by rfl) (hs:starEach (e::es) X.env=(false,eval e X.env)::starEach es X.env:=by rfl) (XA:(backTo qZ (starEach es X.env)).any (·.1)=false:=by rfl) :
  PE X (.Call (.Attribute o name apos) (e::es) [] qZ) (tBM X.K T r to t):=by
 intro pins s σ H Q I h;refine wpAny_Call_method_late Yt D0 Yu rfl (aA (ho pins s σ H _ I h) fun v s1 ⟨x,H1,I1,r1,ty,q1⟩=>?_);obtain⟨h1,h2⟩:=Xz I1 r1 ty;refine⟨T,id,pa,slot,hty,h1,h2,?_⟩;have hA:=ha qZ pins s1 σ H1 _ I1 q1;rw[hs]at hA ⊢;refine Calls.callWith_builtin (by show(false || (backTo qZ (starEach es X.env)).any (·.1))=false;rw[XA] <;> rfl) (Calls.evalArgs_plain ?_)
 exact aA hA fun us s2 ⟨vs,H2,I2,r2,q2⟩=>hm pins s2 σ H2 x vs v us Q I2 r1 r2 q2
end
def ER (X:Cx) (id:String) (r:V->List V->Hp->VK->Prop):Prop:=
 ∀ (pins:List (Addr×Obj)) (s:Shared) (σ:St) (H:Hp) (x:V) (xs:List V) (v:Value) (us:List Value) (Q:VK),Inv X pins σ H s->RelV x v->Vals xs us->r x xs H Q ->
  wpAny (model X.prog X.w) X.A (call (.builtin id) (v::us)) (EP X pins σ Q) X.xe s
theorem Vals.one:∀ {x:V}{us:List Value},Vals [x] us -> ∃u,us = [u]/\RelV x u
 |_,_,.cons r .nil=>⟨_,rfl,r⟩
theorem Vals.two:∀ {x y:V}{us:List Value},Vals [x,y] us -> ∃u v,us = [u,v]/\RelV x u/\RelV y v
 |_,_,_,.cons r (.cons q .nil)=>⟨_,_,rfl,r,q⟩
theorem Vals.eraseIdx:∀ {xs:List V}{us:List Value} (i:Nat),Vals xs us->Vals (xs.eraseIdx i) (us.eraseIdx i)
 |_,_,_,.nil=>.nil
 |_,_,0,.cons _ t=>t
 |_,_,i+1,.cons r t=>.cons r (Vals.eraseIdx i t)
theorem Vals.reverse {xs:List V}{us:List Value} (h:Vals xs us):Vals xs.reverse us.reverse:=by
 induction h with
 |nil=>exact .nil
 |cons r t ih=>rw[HL,HL];exact Vals.append ih (.cons r .nil)
theorem JI {α:Type}:∀ (l:List α) (i:Nat),(l.eraseIdx i).length<=l.length
 |[],_=>aO _
 |_::_,0=>oN _
 |_::r,i+1=>Nat.succ_le_succ (JI r i)
section
variable{X:Cx}{pins:List (Addr×Obj)}{σ:St}{H:Hp}{s:Shared}{l b:Addr}{xs ys zs:List V}
theorem Inv.MH {its its':List Value}{n:Nat}{f:Array Value->Array Value}{t':Nat} (I:Inv X pins σ H s) (hH:H l=some (.lst xs))
  (e:s.heap.get? l=some { cls:= .type "list",data:= .seq its.toArray n }) (hf:f its.toArray=its'.toArray) (hv:Vals ys its') (hz:ys.length<=sizeLine) :
  Inv X pins σ (upd H l (.lst ys)) { s with heap:=s.heap.update l (Obj.mapSeq f),toks:=t' }:=by
 have q:=PySem.IsL.update e f;rw[hf]at q;refine I.write (x:=l) (e:=l) (by rw[hH];exact trivial) (.inl rfl) (fun b' u hb hu=>(iM s.heap (Obj.mapSeq f) (aQ hb)).trans hu) ⟨_,q⟩ ?_
 exact⟨hz,its',_,hv,q⟩
theorem Inv.D1 {its:List Value}{t':Nat} (I:Inv X pins σ H s) (hv:Vals ys its) (hz:ys.length<=sizeLine) :
  Inv X pins σ (upd H s.heap.objs.size (.lst ys)) { s with heap:=s.heap.push { cls:= .type "list",data:= .seq its.toArray },toks:=t' }:=
 I.laid (fun _ _ q=>aT _ q) (aO _) ⟨hz,its,0,hv,bZ _ rfl⟩
theorem Inv.fresh (I:Inv X pins σ H s):H s.heap.objs.size=none:=I.ar.fresh (aO _)
theorem Inv.xg (I:Inv X pins σ H s) (hH:H l=some (.lst xs)):xs.length<=sizeLine /\ ∃ (its:List Value) (n:Nat),Vals xs its/\xs.length=its.length/\s.heap.get? l=some { cls:= .type "list",data:= .seq its.toArray n }:=by
 obtain⟨z,its,n,r,e⟩:=I.ar l _ hH;exact⟨z,its,n,r,r.length,e⟩
end
section
variable{X:Cx}
def Wm:V->List V->Hp->VK->Prop:=fun x vs H Q=>∃l xs y,x = .ref l/\vs = [y]/\H l=some (.lst xs)/\xs.length < sizeLine/\Q .aF (upd H l (.lst (xs ++ [y])))
theorem k9:ER X "list.append" Wm:=by
 intro pins s σ H x vs v us Q I rx rv h;obtain⟨l,xs,y,rfl,rfl,hH,hz,q⟩:=h;cases rx
 obtain⟨u,rfl,ru⟩:=rv.one;obtain⟨z,its,n,r,hl,e⟩:=I.xg hH;refine BC F.slot_list_append ⟨_,e,rfl⟩ F.entry_list_append (F.args_list_append_2 _ _) (PySem.list_append l its.toArray n u (by rw[cQ];omega)) ⟨e,?_⟩
 refine⟨.aF,_,I.MH (its':=its ++ [u]) hH e (by simp) (r.append (.cons ru .nil)) ?_,rfl,q⟩
 rw[de,iN];omega
def XB:V->List V->Hp->VK->Prop:=fun x vs H Q=>∃l xs i k y,x = .ref l/\vs = [.int i]/\H l=some (.lst xs) /\ -(2 ^ 63)<=i/\i < 2 ^ 63/\seqIndex? i xs.length=some k/\xs[k]? = some y/\Q y (upd H l (.lst (xs.eraseIdx k)))
theorem Km:ER X "list.pop" XB:=by
 intro pins s σ H x vs v us Q I rx rv h;obtain⟨l,xs,i,k,y,rfl,rfl,hH,h1,h2,hk,hy,q⟩:=h;cases rx
 obtain⟨u,rfl,ru⟩:=rv.one;obtain⟨t,rfl⟩:=ru;obtain⟨z,its,n,r,hl,e⟩:=I.xg hH;obtain⟨w,hw,gH⟩:=r.get hy;refine BC F.slot_list_pop ⟨_,e,rfl⟩ F.entry_list_pop (F.args_list_pop_2 _ _)
  (MeetsSeq.list_pop_at l its.toArray n i t k w (fitsIndex_both h1 h2) (by rw[cQ,<-hl];exact hk) (by rw[<-BD];exact hw) (by rw[cQ];omega)) ⟨e,?_⟩
 refine⟨y,_,I.MH (its':=its.eraseIdx k) hH e ?_ (r.eraseIdx k) ?_,gH,q⟩
 ·show its.toArray.eraseIdxIfInBounds k=(its.eraseIdx k).toArray
  rw[List.eraseIdxIfInBounds_toArray]
 ·have:=JI xs k
  omega
def MI:R2:=fun x y H Q=>∃l b xs zs,x = .ref l/\y = .ref b/\H l=some (.lst xs)/\H b=some (.lst zs)/\xs.length+zs.length<=sizeLine /\ ∀p,H p=none->Q (.ref p) (upd H p (.lst (xs++zs)))
theorem mE:cE X (binaryOp .Add) MI:=by
 intro pins s σ H x y v u Q I rx ry h;obtain⟨l,b,xs,zs,rfl,rfl,hH,hB,hz,q⟩:=h;cases rx
 cases ry
 obtain⟨z,its,n,r,hl,e⟩:=I.xg hH;obtain⟨z2,t6,n2,r2,dk,e2⟩:=I.xg hB;refine PySem.P.add_list e e2 ?_ (by rw[cQ,cQ];omega)
 have ea:its.toArray++t6.toArray=(its++t6).toArray:=by simp
 rw[ea];exact⟨.ref _,_,I.D1 (t':=s.toks) (r.append r2) (by rw[de];omega),rfl,q _ I.fresh⟩
end
section
variable{prog:Program}{w:World}{A:Around}{E:Value->Shared->Prop}{s:Shared}
set_option maxRecDepth 100000 in
end
end L2
namespace NX
open PySem PySem.W PySem.Calls PyProof.Rows
theorem Sh {P:Params}{h:Heap}:∀ (ns:List Int) (vs:List Value),WellAll P h vs (ns.map WData.int)->IntsAre vs ns:=by
 intro ns
 induction ns with
 |nil =>
  intro vs w;rw[HM]at w;cases w
  exact .nil
 |cons n ns ih =>
  intro vs w;rw[cA]at w;cases w with
  |cons a b =>
   cases a
   exact .cons _ _ (ih _ b)
theorem Uz {l:OpenLaw}{n:Nat} (hn:l.most=some n) {P:Params}{h:Heap}{args:List WData}{vals:List Value}
  (z7:l.row.toRowW.claim.pre args=true) (xD:WellAll P h vals args) :
  ∃a vs ns,vals = [Value.ref a]/\args = [WData.list (ns.map WData.int)]/\h.get? a=some { cls:= .type "list",data:= .seq vs.toArray }/\IntsAre vs ns/\ns.length<=n:=by
 have hsh:WShape.hasAll [] args [.list .int]=true:=(pre_splitW z7).1;have hc:l.pre.holds [] { args:=args }=true:=(pre_splitW z7).2;obtain⟨d,r,rfl,h1,h2⟩:=hasAllW_cons hsh;obtain rfl:=hasAllW_nil h2;obtain⟨xs,rfl,h3⟩:=hasW_list h1;obtain⟨ns,rfl⟩:=items_int h3;have hlen:ns.length<=n:=by
  unfold OpenLaw.pre at hc;have h4:(WTm.not (.lt (.lit (.int (n:Int))) (.len (.arg 0)))).holds [] { args:= [.list (ns.map .int)] }=true:=by
   have h4:=(holds_andW hc).1;rw[hn]at h4;exact h4
  have h5:=condW_of h4 (w_not (w_lt w_lit (w_len_list (w_arg rfl))));rw[ax]at h5;refine Nat.le_of_not_lt fun q=>?_;have q':(n:Int) < ((ns.length:Nat):Int):=by omega
  first
   |(rw[gm q']at h5;exact absurd h5 (by decide))
   |(simp at h5;omega)
 cases xD with
 |cons w1 w2 =>
  cases w2
  cases w1 with
  |list ho ZU=>exact⟨_,_,ns,rfl,rfl,ho,Sh ns _ ZU,hlen⟩
theorem UA (l:OpenLaw) (args:List WData):l.row.toRowW.claim.post args (.bool true) args=true:=
 postW_of (r:=l.row.toRowW) (X:=(true==true))
  (show WShape.has [] (.bool true) .bool=true by first|rfl|decide|simp[WShape.has,WShape.arms,WShape.armsAll])
  (show(WTm.eq .res (.lit (.bool true))).value [] { args:=args,res:=some (.bool true),after:=args }=some (.bool (true==true)) from w_eq_bool (w_res rfl) w_lit) rfl
theorem SX {l:OpenLaw}{n:Nat}{q:Program}{loose:List Str}{XP:(Str->Option Value)->Heap->Prop}{YP:World->Heap->Prop}{d:DefRec}
  (hn:l.most=some n) (xE:d.params.defaults = [])
  (call:∀ (w:World) (cC aY:Shared) (mg mb:Str->Option Value) (fa:Addr) (o:Obj) (pm cd doc:Value) (a:Addr) (vs:List Value) (ns:List Int),
   Ground q loose [] XP w cC mg mb aY.heap->YP w aY.heap ->
   aY.heap.get? fa=some o->o.data = .func (docDef d.name d.params d.body d.scope pm cd doc)->aY.heap.CodeRec cd d.name->mg d.name=some (.ref fa) ->
   aY.heap.get? a=some { cls:= .type "list",data:= .seq vs.toArray }->IntsAre vs ns->ns.length<=n->aY.gens = #[] ->
   codeAny (model l.prog w) callerA (.call (.ref fa) ⟨[.ref a],[]⟩) (fun r s'=>r = .ok (.ret (.bool true))/\OldK aY.heap s'.heap/\s'.os=aY.os/\AllBare s'.gens) aY) :
  WalkO q loose XP YP l.row.toRowW d [] (fun f vs=>PySem.call f vs):=by
 intro w cC aY mg mb G Y fa o pm cd doc dV kV ho hd fh hD rJ hg args vals as z7 xh uG xD hlo;obtain rfl:dV = .none:=Dflts.none hD xE;obtain rfl:kV = .none:=Dflts.noKw hD;obtain⟨a,vs,ns,rfl,rfl,D2,hints,hlen⟩:=Uz hn z7 xD;refine enter_call (qq (call w cC aY mg mb fa o pm cd doc a vs ns G Y ho (fd_plain hd) fh rJ D2 hints hlen hg) fun r s' hq=>?_);obtain⟨rfl,h2,h3,h4⟩:=hq;exact⟨.inl ⟨.bool true,.bool true,[],rfl,fun _=>rfl,.bool true,UA l _,fun _=>⟨List.Pairwise.nil,fun _ hm=>(nomatch hm)⟩⟩,h2,h3,h4⟩
end NX
namespace L2
open PySem PySem.Spec PyProof.Rows
theorem JJ:∀ {vs:List Value}{ns:List Int},IntsAre vs ns->Vals (ns.map V.int) vs
 |_,_,.nil=>.nil
 |_,_,.cons n t h=>.cons ⟨t,rfl⟩ (JJ h)
def D3 (H:Hp):Prop:= ∀b,H b=none \/ ∃o xs,H b=some (.dE o (.lst xs))
theorem Vp {P:Program}{w:World}{K:PySem.W.Frag}{mg mb:Str->Option Value}{CX:ku}{k:Nat}{fa a:Addr}{fd:FuncData}{x:Str}{sp:Sp}{aY:Shared}{vs:List Value}{ns:List Int}
  (KX:K.In aY.heap) (jZ:aY.heap.Ns mainGlobals mg) (hb:aY.heap.Ns builtinsNs mb) (hbb:∀x:Str,x ≠ "__name__" -> mb x=bootBuiltins x) (MJ:aY.heap.NoLimit) (hg:aY.gens = #[])
  (ha:aY.heap.get? a=some { cls:= .type "list",data:= .seq vs.toArray }) (hi:IntsAre vs ns) (hl:ns.length<=sizeLine) (hr:aV k callerA)
  (F:∀base:Heap,K.In base->base.Ns mainGlobals mg->aH P w K mg base CX k fa fd [x] sp) (Yv:∀ (s:Shared) (u:Value),BindsTo s fd ⟨[u],[]⟩ [(x,u)])
  (jX:∀H:Hp,D3 H->ak K H a (ns.map V.int)->sp [.ref a] H (fun v _=>v = .bl true) fun _ _ _=>False)
  (ES:∀H e s',CX [] H aY (fun _ _ _=>False) e s'->False) :
  codeAny (model P w) callerA (.call (.ref fa) ⟨[.ref a],[]⟩) (fun r s'=>r = .ok (.ret (.bool true))/\OldK aY.heap s'.heap/\s'.os=aY.os/\AllBare s'.gens) aY:=by
 have rv:=JJ hi;have ZV:=hi.length;have core:∀H:Hp,D3 H->ak K H a (ns.map V.int)->cD P w H aY.heap->(∀b,H b≠none->b=a)->(H a≠none->K.lookup a=none) ->
   codeAny (model P w) callerA (.call (.ref fa) ⟨[.ref a],[]⟩) (fun r s'=>r = .ok (.ret (.bool true))/\OldK aY.heap s'.heap/\s'.os=aY.os/\AllBare s'.gens) aY:=by
  intro H hO hS ar hA hK;have Lb:∀ {b:Addr}{o:Obj},aY.heap.get? b=some o->H b=none->(n4 aY.heap H).get? b=some o:=fun e n=>Vi e n;have xC:∀ {b:Addr}{o:Obj}{es:Array DictEntry}{ep:Nat},aY.heap.get? b=some o->o.data = .dict es ep->H b=none:=fun {b o es ep} e d=>by
   cases q:H b with
   |none=>rfl
   |some u =>
    have e':b=a:=hA b (by rw[q];simp)
    subst e';rw[ha]at e;cases e;have d':Data.seq vs.toArray _=Data.dict es ep:=d;cases d'
  have Aw:∀ {b:Addr}{m:Str->Option Value},aY.heap.Ns b m->(n4 aY.heap H).Ns b m:=fun {b m} ⟨o,es,ep,e,d,r⟩=>⟨o,es,ep,Lb e (xC e d),d,r⟩;have NY:K.In (n4 aY.heap H):=fun b o e=>Lb (KX b o e) (by
   cases q:H b with
   |none=>rfl
   |some u =>
    have e':b=a:=hA b (by rw[q];simp)
    subst e';rw[hK (by rw[q];simp)]at e;cases e)
  have hM:Mod K mg (n4 aY.heap H):=⟨NY,Aw jZ,⟨mb,Aw hb,hbb⟩,let ⟨mc,h1,h2⟩:=MJ;⟨mc,Aw h1,h2⟩⟩;have e0:n6 P w K mg (n4 aY.heap H) callerA [] aY H:=⟨rfl,hM,fun b o e=>Wc e,Nat.le_of_eq (Ut _ _),trivial,fun b hb=>absurd (show b∈([]:List Addr) from hb) (by simp),ar,.of_eq hg⟩
  refine qq ((F _ NY (Aw jZ)).run callerA [] aY H ⟨[.ref a],[]⟩ [.ref a] [.ref a] _ _ hr e0 (Yv aY (.ref a)) (.cons rfl .nil) (jX H hO hS)) fun r s' h=>?_;cases r with
  |error e=>exact(ES H e s' h).elim
  |ok fl =>
   cases fl with
   |next=>exact False.elim h
   |brk=>exact False.elim h
   |cont=>exact False.elim h
   |ret u =>
    obtain⟨v,H',os,bare,un,ZW,r',q⟩:=h;have q':v = .bl true:=q;subst q';obtain rfl:u=Value.bool true:=r';refine⟨rfl,OldK.of_keep fun b o e=>?_,os,bare⟩;cases q:H b with
    |none=>exact un.keep b o e q (by intro z;exact absurd (show b∈([]:List Addr) from z) (by simp)) (by simp)
    |some u =>
     rcases hO b with z|⟨ob,xs,z⟩
     ·rw[q]at z;cases z
     ·have z2:=un.jt b ob _ z
      obtain⟨e1,_⟩:=ar b _ z;obtain⟨e2,_⟩:=ZW b _ z2;rw[e]at e1;cases e1;exact e2
 cases hk:K.lookup a with
 |some o =>
  have e:=KX a o hk;rw[ha]at e;cases e
  refine core (fun _=>none) (fun _=>.inl rfl) (.inr ⟨_,vs.toArray,_,hk,rfl,rfl,rfl,by rw[cQ,ZV];exact hl,by simpa using rv⟩) (fun b u z=>by have z':(none:Option HO)=some u:=z;cases z') (fun b z=>absurd rfl z) fun z=>absurd rfl z
 |none =>
  refine core (fun b=>if b=a then some (.dE { cls:= .type "list",data:= .seq vs.toArray } (.lst (ns.map V.int))) else none) (fun b=>?_) (.inl (.inr ⟨{ cls:= .type "list",data:= .seq vs.toArray },aB rfl⟩)) (fun b u z=>?_) (fun b z=>?_) fun _=>hk
  ·by_cases hb:b=a
   ·exact .inr ⟨_,_,aB hb⟩
   ·exact .inl (au hb)
  ·by_cases hb:b=a
   ·have z':=(aB hb).symm.trans z
    cases z'
    subst hb;exact⟨ha,by rw[ax];exact hl,vs,_,rv,ha⟩
   ·have z':=(au hb).symm.trans z
    cases z'
  ·by_cases hb:b=a
   ·exact hb
   ·exact absurd (au hb) z
theorem Wn {l:PySem.W.OpenLaw}{n k:Nat}{q:Program}{loose:List Str}{XP:(Str->Option Value)->Heap->Prop}{YP:World->Heap->Prop}{d:DefRec}{K:Params->PySem.W.Frag}{CX:World->ku}{sp:World->Sp}{x:Str}
  (hn:l.most=some n) (Ax:n<=sizeLine) (xE:d.params.defaults = []) (hr:aV k callerA)
  (hY:∀ (w:World) (h:Heap),YP w h->(K w.params).In h)
  (F:∀ (w:World) (mg:Str->Option Value) (fa:Addr) (h:Heap),(K w.params).In h->h.Ns mainGlobals mg->mg d.name=some (.ref fa) ->
   ∃fd:FuncData,(∀ (s:Shared) (u:Value),BindsTo s fd ⟨[u],[]⟩ [(x,u)]) /\
    ∀base:Heap,(K w.params).In base->base.Ns mainGlobals mg->aH l.prog w (K w.params) mg base (CX w) k fa fd [x] (sp w))
  (jX:∀ (w:World) (H:Hp) (a:Addr) (ns:List Int),ns.length<=n->D3 H->ak (K w.params) H a (ns.map V.int)->sp w [.ref a] H (fun v _=>v = .bl true) fun _ _ _=>False)
  (ES:∀ (w:World) (H:Hp) (s:Shared) (e:Value) (s':Shared),CX w [] H s (fun _ _ _=>False) e s'->False) :
  PySem.W.WalkO q loose XP YP l.row.toRowW d [] (fun f vs=>PySem.call f vs):=by
 refine NX.SX hn xE fun w cC aY mg mb fa o pm cd doc a vs ns G Y ho hd fh rJ D2 hints hlen hg=>?_;have KX:=hY w _ Y;obtain⟨fd,hb,hF⟩:=F w mg fa _ KX G.T.g rJ;exact Vp KX G.T.g G.T.b G.T.builtins G.T.nolimit hg D2 hints (dU hlen Ax) hr hF hb (fun H hO hS=>jX w H a ns hlen hO hS) fun H e s'=>ES w H aY e s'
def inClass (s:Stmt) (j:Nat):Stmt:=match s with
 |.ClassDef _ _ _ body _ _ _ _ _ _ _=>body.getD j (.Pass ⟨0,0,0,0⟩)
 |_=>.Pass ⟨0,0,0,0⟩
def qI (s:Stmt):Arguments:=match s with
 |.FunctionDef _ a _ _ _ _ _ _ _ _=>a
 |_=>{ posonlyargs:= [],args:= [],vararg:=none,kwonlyargs:= [],kw_defaults:= [],kwarg:=none,defaults:= [] }
def cu (s:Stmt):List Stmt:=match s with
 |.FunctionDef _ _ b _ _ _ _ _ _ _=>b
 |_=>[]
def aJ (s:Stmt):Scope:=match s with
 |.FunctionDef _ _ _ _ _ _ sc _ _ _=>sc
 |_=>{ kind:= .function,names:= [],isGenerator:=false,isCoroutine:=false }
abbrev aK:ku:=fun _ _ _ _ _ _=>False
abbrev E0:XK:=fun _ _ _=>False
theorem bh {X:Cx}:Passes aK X E0:=fun _ _ _ _ _ _ _ h=>h.elim
structure aX (K:PySem.W.Frag) (x qual:Str) (st:Stmt) (f:Addr) (fd:FuncData):Prop where
 ex:∃ (oc:Value) (od:Option Addr) (kV doc pm:Value) (an:Option Addr) (cdv ct:Value) (kB:Array (Option Value)),
  fd=PySem.W.fnOf x qual (qI st) (cu st) (aJ st) .none kV doc pm an cdv ct/\K.lookup f=some ⟨oc,od,.func fd,kB⟩/\PySem.W.codeIn K cdv qual=true
 kp:PySem.W.keepIn K (.ref f)=true
section
variable{P:Program}{w:World}{K:PySem.W.Frag}{mg:Str->Option Value}{base:Heap}
theorem aX.ok {x qual:Str}{st:Stmt}{f:Addr}{fd:FuncData}{N ps:List Str}{k:Nat}{sp:Sp} (F:aX K x qual st f fd) (S:b8 N ps (aJ st)) (len:∀vs H Q E,sp vs H Q E->vs.length=ps.length)
  (nV:∀ (cdv:Value) (A:Around) (outer:List Env) (s:Shared) (H:Hp) (vs:List V) (Q:VK) (E:XK),aV k (A.deeper (envOfC qual (aJ st) s.heap.objs.size f cdv))->sp vs H Q E ->
   ∃t,fB (jv aK P w K mg base N qual (aJ st) f cdv A outer s H E).Ao (cu st) t/\t { nx:=fun _ H'=>Q .aF H',rt:=Q } (start N vs) H):aH P w K mg base aK (k+1) f fd ps sp:=by
 obtain⟨oc,od,kV,doc,pm,an,cdv,ct,kB,rfl,lk,fh⟩:=F.ex;refine Mf lk fh S len fun A outer s H vs Q E hr jX=>?_;obtain⟨t,h,q⟩:=nV cdv A outer s H vs Q E hr jX;exact⟨t,h.Ao,q⟩
theorem aX.binds {x qual:Str}{st:Stmt}{f:Addr}{fd:FuncData}{ps:List Str} (F:aX K x qual st f fd)
  (h:∀ (kV doc pm:Value) (an:Option Addr) (cdv ct:Value) (us:List Value),us.length=ps.length->bindArgs (PySem.W.fnOf x qual (qI st) (cu st) (aJ st) .none kV doc pm an cdv ct) ⟨us,[]⟩=pure (ps.zip us)):Binds K fd ps []:=by
 obtain⟨oc,od,kV,doc,pm,an,cdv,ct,kB,rfl,lk,fh⟩:=F.ex;exact .all (h kV doc pm an cdv ct)
theorem LP {x qual:Str}{st:Stmt}{f:Addr}{oc:Value}{od an:Option Addr}{kB:Array (Option Value)}{kV doc pm cdv ct:Value} (l:K.lookup f=some ⟨oc,od,.func (PySem.W.fnOf x qual (qI st) (cu st) (aJ st) .none kV doc pm an cdv ct),kB⟩)
  (c:PySem.W.codeIn K cdv qual=true) (k:PySem.W.keepIn K (.ref f)=true):aX K x qual st f (PySem.W.fnOf x qual (qI st) (cu st) (aJ st) .none kV doc pm an cdv ct):=⟨⟨oc,od,kV,doc,pm,an,cdv,ct,kB,rfl,l,c⟩,k⟩
end
section
variable{X:Cx}
theorem pv (i:Nat) {x:Str}{pos:Pos} (hN:X.N[i]? = some x:=by rfl) (hv:EJ X.env.scope x:=by first|exact Or.inl rfl|exact Or.inr (Or.inl rfl)|exact Or.inr (Or.inr rfl)) (hd:(x==("__debug__" : Str))=false:=by decide)
  (fh:(x==("__classdict__" : Str))=false:=by decide):PE X (.Name x pos) (pG i):=Xn hN hv hd fh
end
theorem iH {c A B:Prop} [Decidable c] (h1:c->A) (h2 : ¬ c->B):if c then A else B:=by
 by_cases h:c
 ·rw[aB h]
  exact h1 h
 ·rw[au h]
  exact h2 h
def ao (H H':Hp):Prop:= ∀b o,H b=some o->H' b=some o
theorem ao.refl (H:Hp):ao H H:=fun _ _ h=>h
theorem ao.trans {H H1 H2:Hp} (a:ao H H1) (b:ao H1 H2):ao H H2:=fun c o h=>b c o (a c o h)
theorem ao.free {H H':Hp} (e:ao H H') {l:Addr} (h:H' l=Option.none):H l=Option.none:=by
 cases q:H l with
 |none=>rfl
 |some o =>
  rw[e l o q]at h;cases h
def gU (cells:List (Str×Addr)):List (Str×NameKind)->List (Str×Addr)->List (Str×Addr)
 |[],acc=>acc
 |(n,k)::r,acc=>if k == .free then gU cells r ((n,(cells.lookup n).getD 0)::acc) else gU cells r acc
theorem B1 {env:Env}{scope:Scope} (h:∀n,(n,NameKind.free)∈scope.names -> ∃c,env.cells.lookup n=some c) :
  closureFor scope env=pure (gU env.cells scope.names []):=by
 have key:∀ (names:List (Str×NameKind)) (acc:List (Str×Addr)),(∀n,(n,NameKind.free)∈names -> ∃c,env.cells.lookup n=some c) ->
   (forIn (m:=Sem) names acc fun x r=>match x with|(name,kind)=>if (kind==NameKind.free)=true then (do let a <- cellOf env name;pure (ForInStep.yield ((name,a)::r))) else pure (ForInStep.yield r))=pure (gU env.cells names acc):=by
  intro names
  induction names with
  |nil=>intro acc _;rfl
  |cons x r ih =>
   intro acc hx;obtain⟨n,k⟩:=x;rw[BE];unfold gU
   by_cases hk:k = .free
   ·subst hk
    obtain⟨c,hc⟩:=hx n aZ;simp only[beq_self_eq_true,oM];have e:cellOf env n=pure c:=by unfold cellOf;rw[hc]
    rw[e,hc];exact ih _ fun m hm=>hx m (bJ _ hm)
   ·have hb:(k==NameKind.free)=false:=by simpa using hk
    simp only[hb,oO,j'];exact ih _ fun m hm=>hx m (bJ _ hm)
 unfold closureFor;have:=key scope.names [] h;show((forIn (m:=Sem) scope.names [] fun x r=>match x with|(name,kind)=>if (kind==NameKind.free)=true then (do let a <- cellOf env name;pure (ForInStep.yield ((name,a)::r))) else pure (ForInStep.yield r)) >>= fun cs=>pure cs)=_;rw[this]
 rfl
theorem sy:∀ (names:List (Str×NameKind)) (n:Nat) (acc:List (Str×Addr)),cellsFrom n names acc=cellsFrom n names []++acc
 |[],_,_=>rfl
 |(name,kind)::r,n,acc=>by
  unfold cellsFrom;split
  ·rw[sy r (n+1) ((name,n)::acc),sy r (n+1) [(name,n)],HN];rfl
  ·exact sy r n acc
theorem zd {cells:List (Str×Addr)}:∀ (names:List (Str×NameKind)) (acc:List (Str×Addr)) (x:Str) (c:Addr),(gU cells names acc).lookup x=some c ->
  (acc.lookup x=some c)\/((x,NameKind.free)∈names/\c=(cells.lookup x).getD 0)
 |[],acc,x,c,h=>.inl h
 |(n,k)::r,acc,x,c,h=>by
  unfold gU at h;split at h
  ·rename_i hk
   have xF:k = .free:=by simpa using hk
   subst xF;rcases zd r _ x c h with z|⟨z,e⟩
   ·rw[iO]at z
    cases hb:x==n with
    |true=>rw[hb]at z;cases z;rw[cT.mp hb];exact .inr ⟨aZ,rfl⟩
    |false=>rw[hb]at z;exact .inl z
   ·exact .inr ⟨bJ _ z,e⟩
  ·rcases zd r _ x c h with z|⟨z,e⟩
   ·exact .inl z
   ·exact .inr ⟨bJ _ z,e⟩
theorem Cm {cells:List (Str×Addr)}:∀ (names:List (Str×NameKind)) (acc:List (Str×Addr)) (x:Str),(∃c,acc.lookup x=some c) -> ∃c,(gU cells names acc).lookup x=some c
 |[],acc,x,h=>h
 |(n,k)::r,acc,x,h=>by
  unfold gU;split
  ·refine Cm r _ x ?_
   obtain⟨c,h⟩:=h;rw[iO];cases hb:x==n with
   |true=>exact⟨_,rfl⟩
   |false=>exact⟨c,h⟩
  ·exact Cm r _ x h
theorem zj {cells:List (Str×Addr)}:∀ (names:List (Str×NameKind)) (acc:List (Str×Addr)) (x:Str),(x,NameKind.free)∈names -> ∃c,(gU cells names acc).lookup x=some c
 |[],acc,x,h=>by simp at h
 |(n,k)::r,acc,x,h=>by
  unfold gU;rcases a9.mp h with e|h
  ·cases e
   simp only[beq_self_eq_true,oM];exact Cm r _ _ ⟨(cells.lookup n).getD 0,by rw[iO];simp⟩
  ·split
   ·exact zj r _ x h
   ·exact zj r _ x h
theorem y8:∀ (names:List (Str×NameKind)) (n:Nat) (acc:List (Str×Addr)) (x:Str) (c:Addr),(x,c)∈cellsFrom n names acc->(x,c)∈acc\/(x,NameKind.cell)∈names
 |[],_,_,_,_,h=>.inl h
 |(name,kind)::r,n,acc,x,c,h=>by
  unfold cellsFrom at h;split at h
  ·rename_i hk
   have xF:kind = .cell:=by simpa using hk
   subst xF;rcases y8 r _ _ x c h with z|z
   ·rcases a9.mp z with e|z
    ·cases e;exact .inr aZ
    ·exact .inl z
   ·exact .inr (bJ _ z)
  ·rcases y8 r _ _ x c h with z|z
   ·exact .inl z
   ·exact .inr (bJ _ z)
structure bX (N:List Str) (NZ:Scope) (N':List Str) (cw:List (Option Nat)) (sc:Scope):Prop where
 kind:sc.kind = .function
 keys:(sc.names.map (·.1)).Nodup
 nd:N'.Nodup
 len:cw.length=N'.length
 fv:∀ (j i:Nat),cw[j]? = some (some i) -> ∃x,N[i]? = some x/\N'[j]? = some x/\sc.names.lookup x=some .free
 free:∀p∈sc.names,p.2 = .free->NZ.names.lookup p.1=some .cell\/NZ.names.lookup p.1=some .free
theorem sC {α:Type}:∀ {l:List (Str×α)},(l.map (·.1)).Nodup -> ∀ {x:Str}{k:α},(x,k)∈l->l.lookup x=some k
 |(n,v)::r,hn,x,k,h=>by
  obtain⟨h1,h2⟩:=eP.mp hn;rw[iO];rcases a9.mp h with e|hm
  ·cases e;simp
  ·have:(x==n)=false:=by
    rw[nB];intro e;exact h1 (aS.mpr ⟨_,hm,e⟩)
   rw[this];exact sC h2 hm
def CH (scope:Scope) (L:Addr) (env:Env):Env:=
 { scope:=relabel scope env,locals:=L,globals:=env.globals,cells:=cellsFrom (L+1) scope.names (gU env.cells scope.names []),qual:=env.qual,func:=none,code:=env.code,frame:=env.frame,builtins:=env.builtins }
theorem Ja {M:Model}{A:Around}{E:Value->Shared->Prop}{s:Shared}{scope:Scope}{globals:Addr}{cl:List (Str×Addr)}{qual:Str}{env:Env}{Q:Env->Shared->Prop}
  (hQ:∀h',h'.Ns s.heap.objs.size (fun _=>none)->(∀b o,s.heap.get? b=some o->h'.get? b=some o)->(∀x c,(x,c)∈cellsFrom (s.heap.objs.size+1) scope.names []->h'.IsCell c none/\s.heap.objs.size < c) ->
   ((cellsFrom (s.heap.objs.size+1) scope.names []).Pairwise fun x y=>x.2≠y.2) ->
   Q { scope:=scope,locals:=s.heap.objs.size,globals:=globals,cells:=cellsFrom (s.heap.objs.size+1) scope.names cl,qual:=qual,func:=none,code:=env.code,frame:=env.frame,builtins:=env.builtins } { s with heap:=h' }) :
  wpAny M A (newFunctionEnv scope globals cl [] qual none .none (some env)) Q E s:=by
 simp only[newFunctionEnv,Option.isSome_some,oM];refine ae (wpAny_alloc ?_);refine ae (wpAny_layCells _ (fun name kind cells=>by cases hkc:kind==NameKind.cell <;> simp[hkc]) _ _ _ _ ?_)
 have ok:=cellsFrom_ok scope.names (s.heap.push { cls:= .type "dict",data:= .dict #[] }) (s.heap.objs.size+1) [] ⟨fun _ _ hm=>(nomatch hm),List.Pairwise.nil⟩ (by rw[jH];exact aO _)
 rw[jH]at ok;rw[show({ s with heap:=s.heap.push { cls:= .type "dict",data:= .dict #[] } }:Shared).heap.objs.size=s.heap.objs.size+1 from jH ..];rw[BF];refine ae (aj (aj ?_));exact hQ _ ((Heap.Ns.new s.heap (.type "dict")).keeps (pushCells_keeps _ _)) (fun b o e=>pushCells_keeps _ _ b o (aT _ e)) (fun x c hm=>⟨(ok.empty x c hm).1,(ok.empty x c hm).2⟩) ok.apart
def cR (X:Cx) (N':List Str) (scope:Scope) (s2:Shared) (H2:Hp) (fp:List Addr):Cx:=
 { X with N:=N',cC:=s2,iW:=H2,env:=CH scope s2.heap.objs.size X.env,outer:=X.stack,stack:=X.stack,ex:=fp,fn:=fun x=>scope.names.lookup x==some .cell,pn:= [],xe:=fun _ _=>False }
theorem BZ {env:Env}:∀ {names:List (Str×NameKind)}{x:Str}{k:NameKind},
  (names.map fun(n,k)=>if (k==NameKind.free && env.scope.kind == .function && env.kindOf n==some .cell) then (n,NameKind.cell) else (n,k)).lookup x=some k ->
  ∃k0,names.lookup x=some k0/\(k=k0\/(k0 = .free/\k = .cell))
 |[],_,_,h=>by simp at h
 |(n,k0)::r,x,k,h=>by
  have ih:=@BZ env r x k;have h':List.lookup x ((if (k0==NameKind.free && env.scope.kind == .function && env.kindOf n==some .cell)=true then (n,NameKind.cell) else (n,k0))::_)=some k:=h;rw[iO]
  by_cases hc:(k0==NameKind.free && env.scope.kind == .function && env.kindOf n==some .cell)=true
  ·rw[aB hc,iO]at h'
   cases hx:x==n with
   |true =>
    rw[hx]at h';cases h';have:k0 = .free:=by
     have z:=hc;rw[vw,vw]at z
     simpa using z.1.1
    exact⟨k0,rfl,.inr ⟨this,rfl⟩⟩
   |false=>rw[hx]at h';exact ih h'
  ·rw[au hc,iO]at h'
   cases hx:x==n with
   |true=>rw[hx]at h';cases h';exact⟨k0,rfl,.inl rfl⟩
   |false=>rw[hx]at h';exact ih h'
theorem BX {env:Env}:∀ {names:List (Str×NameKind)}{x:Str},names.lookup x=some .free ->
  (names.map fun(n,k)=>if (k==NameKind.free && env.scope.kind == .function && env.kindOf n==some .cell) then (n,NameKind.cell) else (n,k)).lookup x=some .cell \/
  (names.map fun(n,k)=>if (k==NameKind.free && env.scope.kind == .function && env.kindOf n==some .cell) then (n,NameKind.cell) else (n,k)).lookup x=some .free
 |[],_,h=>by simp at h
 |(n,k0)::r,x,h=>by
  have ih:=@BX env r x;show List.lookup x ((if (k0==NameKind.free && env.scope.kind == .function && env.kindOf n==some .cell)=true then (n,NameKind.cell) else (n,k0))::_)=_\/List.lookup x ((if (k0==NameKind.free && env.scope.kind == .function && env.kindOf n==some .cell)=true then (n,NameKind.cell) else (n,k0))::_)=_;rw[iO]at h;cases hx:x==n with
  |true =>
   rw[hx]at h;cases h
   by_cases hc:(NameKind.free==NameKind.free && env.scope.kind == .function && env.kindOf n==some .cell)=true
   ·rw[aB hc,iO,hx];exact .inl rfl
   ·rw[au hc,iO,hx];exact .inr rfl
  |false =>
   rw[hx]at h
   by_cases hc:(k0==NameKind.free && env.scope.kind == .function && env.kindOf n==some .cell)=true
   ·rw[aB hc,iO,hx];exact ih h
   ·rw[au hc,iO,hx];exact ih h
def pick (cw:List (Option Nat)) (σ:St):St:=cw.map fun o=>o.bind fun i=>(σ[i]?).join
section
variable{X:Cx}{pins:List (Addr×Obj)}{σ:St}{H:Hp}{s2:Shared}{N':List Str}{cw:List (Option Nat)}{scope:Scope}{fp:List Addr}{h':Heap}
theorem zk (I:Inv X pins σ H s2) (S:bX X.N X.env.scope N' cw scope) {x:Str} (hx:(x,NameKind.free)∈scope.names):∃c,X.env.cells.lookup x=some c:=
 I.ok.has x (S.free _ hx rfl)
theorem TB (I:Inv X pins σ H s2) (S:bX X.N X.env.scope N' cw scope) {n:Nat}{x:Str}{c:Addr} (h:(cellsFrom n scope.names (gU X.env.cells scope.names [])).lookup x=some c) :
  ((x,c)∈cellsFrom n scope.names []/\(x,NameKind.cell)∈scope.names)\/((x,NameKind.free)∈scope.names/\X.env.cells.lookup x=some c):=by
 rw[sy,Q3]at h;cases e:(cellsFrom n scope.names []).lookup x with
 |some d =>
  rw[e]at h;have z:d=c:=by simpa using h
  subst z;have m:=oK e;rcases y8 _ _ _ _ _ m with z|z
  ·simp at z
  ·exact .inl ⟨m,z⟩
 |none =>
  rw[e]at h;have h':(gU X.env.cells scope.names []).lookup x=some c:=by simpa using h
  rcases zd _ _ _ _ h' with z|⟨z,e2⟩
  ·simp at z
  ·obtain⟨c0,h0⟩:=zk I S z
   rw[h0]at e2;exact .inr ⟨z,by rw[h0,e2];rfl⟩
theorem Kn (I:Inv X pins σ H s2) (S:bX X.N X.env.scope N' cw scope) (xG:∀b∈fp,f9 X pins H b) (hfo:∀b∈fp,∃o,s2.heap.get? b=some o)
  (hn:h'.Ns s2.heap.objs.size (fun _=>none)) (hk:∀b o,s2.heap.get? b=some o->h'.get? b=some o)
  (hc:∀x c,(x,c)∈cellsFrom (s2.heap.objs.size+1) scope.names []->h'.IsCell c none/\s2.heap.objs.size < c) (hp:(cellsFrom (s2.heap.objs.size+1) scope.names []).Pairwise fun x y=>x.2≠y.2) :
  Inv (cR X N' scope s2 H fp) [] (pick cw σ) H { s2 with heap:=h' }:=by
 have old:∀ {x:Str}{c:Addr},X.env.cells.lookup x=some c->c < s2.heap.objs.size:=fun {x c} e=>let ⟨_,q⟩:=I.cell x c e;q.lt;have cc:∀ {x:Str}{c:Addr},(cR X N' scope s2 H fp).env.cells.lookup x=some c->((x,c)∈cellsFrom (s2.heap.objs.size+1) scope.names []/\(x,NameKind.cell)∈scope.names)\/((x,NameKind.free)∈scope.names/\X.env.cells.lookup x=some c):=
  fun {x c} e=>TB I S e
 have isc:∀ {x:Str}{c:Addr},(cR X N' scope s2 H fp).env.cells.lookup x=some c -> ∃v,h'.IsCell c v:=fun {x c} e=>by
  rcases cc e with⟨m,_⟩|⟨_,e0⟩
  ·exact⟨_,(hc x c m).1⟩
  ·obtain⟨v,q⟩:=I.cell x c e0
   exact⟨v,q.keeps hk⟩
 have jz:∀b∈fp,b < s2.heap.objs.size:=fun b hb=>let ⟨_,e⟩:=hfo b hb;aR e;refine⟨⟨I.ok.mod,S.kind,I.ok.glob,I.ok.blt,aO _,fun x y c e1 e2=>?_,fun x hx=>?_,fun x c hx e=>?_,I.ok.hd,I.ok.frames,.inl rfl,fun b hb=>⟨bj (jz b hb),fun x c e z=>?_⟩,I.bs,?_,fun b o e hb=>?_,fun b hb xH=>?_,I.stack,I.zD⟩,
  rfl,I.bare,Un.kept hk,⟨_,hn,fun j x v e1 e2 e3=>?_⟩,fun x c e=>isc e,I.ar.fresh (aO _),fun x c e=>?_,fun p hp=>absurd (show p∈([]:List (Addr×Obj)) from hp) (by simp),I.ar.kept hk,?_⟩
 ·rcases cc e1 with⟨m1,_⟩|⟨_,o1⟩ <;> rcases cc e2 with⟨m2,_⟩|⟨_,o2⟩
  ·exact name_of_addr hp m1 m2
  ·exact absurd (vy (hc _ _ m1).2 (old o2)) (qo _)
  ·exact absurd (vy (hc _ _ m2).2 (old o1)) (qo _)
  ·exact I.ok.inj x y c o1 o2
 ·have hk0:∃k0,scope.names.lookup x=some k0/\(k0 = .cell\/k0 = .free):=by
   rcases hx with hx|hx
   ·obtain⟨k0,e,z⟩:=BZ (env:=X.env) hx
    refine⟨k0,e,?_⟩;rcases z with z|z
    ·exact .inl z.symm
    ·exact .inr z.1
   ·obtain⟨k0,e,z⟩:=BZ (env:=X.env) hx
    refine⟨k0,e,?_⟩;rcases z with z|z
    ·exact .inr z.symm
    ·exact .inr z.1
  obtain⟨k0,e,z⟩:=hk0;show ∃c,(cellsFrom (s2.heap.objs.size+1) scope.names (gU X.env.cells scope.names [])).lookup x=some c;rw[sy,Q3];rcases z with rfl|rfl
  ·obtain⟨c,oj⟩:=CF (n:=s2.heap.objs.size+1) e
   exact⟨c,by rw[oj];rfl⟩
  ·cases q:(cellsFrom (s2.heap.objs.size+1) scope.names []).lookup x with
   |some d=>exact⟨d,rfl⟩
   |none =>
    obtain⟨c,oj⟩:=zj (cells:=X.env.cells) scope.names [] x (oK e);exact⟨c,by rw[oj];rfl⟩
 ·have d9:scope.names.lookup x=some .cell:=by simpa [cR] using hx
  rcases cc e with⟨m,_⟩|⟨m,_⟩
  ·exact vo (hc _ _ m).2
  ·rw[sC S.keys m]at d9;cases d9
 ·rcases cc e with⟨m,_⟩|⟨_,o1⟩
  ·have:=jz b hb
   rw[<-z]at this;exact absurd (vy (hc _ _ m).2 this) (qo _)
  ·exact(xG b hb).2.2.2.2.1 x c o1 z
 ·exact dU I.ok.jV I.sz
 ·rcases (xG b hb).2.2.2.1 with z|z
  ·exact I.ok.n5 b o e z
  ·exact absurd (gj (aR (I.ok.bs b o e).1) z) (qo _)
 ·have:=I.wm b xH
  rcases a9.mp this with z|z
  ·exact(xG b hb).2.1 z
  ·exact(xG b hb).2.2.1 z
 ·
  have xI:(cw[j]?).bind (fun o=>some (o.bind fun i=>(σ[i]?).join))=some (some v):=by
   have xJ:(cw.map fun o=>o.bind fun i=>(σ[i]?).join)[j]? = some (some v):=e2;rw[gA]at xJ;cases q:cw[j]? with
   |none=>rw[q]at xJ;cases xJ
   |some o=>rw[q]at xJ;exact xJ
  cases q:cw[j]? with
  |none=>rw[q]at xI;cases xI
  |some o =>
   rw[q]at xI;cases o with
   |none=>simp at xI
   |some i =>
    have uH:(σ[i]?).join=some v:=by simpa using xI
    have e4:σ[i]? = some (some v):=by
     cases q2:σ[i]? with
     |none=>rw[q2]at uH;cases uH
     |some z=>rw[q2]at uH;rw[show z=some v from uH]
    obtain⟨y,xK,xM,xN⟩:=S.fv j i q;have exy:x=y:=by
     have N0:N'[j]? = some x:=e1;rw[xM]at N0;exact(gy N0).symm
    subst exy;obtain⟨m,hm,hl⟩:=I.loc;have hf:=S.free _ (oK xN) rfl;obtain⟨u,r,lk⟩:=hl i x v xK e4 (by rcases hf with z|z;exact .inr (.inl z);exact .inr (.inr z))
    refine⟨u,r,.inr ⟨BX xN,?_⟩⟩;rcases lk with⟨k,_⟩|⟨_,c,ec,ic⟩
    ·have k':X.env.scope.names.lookup x=some .local:=k
     rcases hf with z|z <;> (rw[z]at k';cases k')
    ·refine⟨c,?_,ic.keeps hk⟩
     show(cellsFrom (s2.heap.objs.size+1) scope.names (gU X.env.cells scope.names [])).lookup x=some c;rw[sy,Q3];cases q3:(cellsFrom (s2.heap.objs.size+1) scope.names []).lookup x with
     |some d =>
      rcases y8 _ _ _ _ _ (oK q3) with z|z
      ·simp at z
      ·rw[sC S.keys z]at xN;cases xN
     |none =>
      obtain⟨c',oj⟩:=zj (cells:=X.env.cells) scope.names [] x (oK xN);rcases zd _ _ _ _ oj with z|⟨_,e5⟩
      ·simp at z
      ·rw[ec]at e5
       rw[oj,e5];rfl
 ·rcases cc e with⟨m,_⟩|⟨_,o1⟩
  ·exact I.ar.fresh (vo (hc _ _ m).2)
  ·exact I.gT x c o1
 ·show(cw.map _).length=N'.length
  rw[ax,S.len]
end
def rb (X:Cx) (ifs:List Expr) (t:TT):Prop:=
 ∀ (pins:List (Addr×Obj)) (s:Shared) (σ:St) (H:Hp) (Q:Bool->Hp->Prop),Inv X pins σ H s->t σ H Q ->
  wpAny (model X.prog X.w) X.A (forIn ifs true fun c r=>if r=true then do let ok <- isTrue c X.env (eval c X.env);pure (ForInStep.yield ok) else pure (ForInStep.yield r)) (TP X pins σ Q) X.xe s
def zW:TT:=fun _ H Q=>Q true H
section
variable{X:Cx}
theorem eF:rb X [] zW:=fun _ _ _ H _ I h=>wpAny_tests_nil ⟨H,I,h⟩
theorem lb {c:Expr}{t:TT} (h:PT X c t):rb X [c] t:=fun pins s σ H Q I hw=>wpAny_tests_one (h pins s σ H Q I hw)
end
theorem IJ {prog:Program}{w:World}{A:Around}{R:Result->Shared->Prop}{s:Shared}{elt target iter:Expr}{ifs:List Expr}{scope:Scope}{pos:Pos}{it acc:Value}{env:Env} (I:Nat->Shared->Prop)
  (turn:∀n s,I n s->wpAny (model prog w) A (pyNext it) (fun r s1=>match r with
   |none=>R (.ok .next) s1
   |some v=>wpAny (model prog w) A (letOwnedTupleGo target it v) (fun _ s2=>wpAny (model prog w) A (assign target env v) (fun _ s3 =>
     wpAny (model prog w) A (forIn ifs true fun c r=>if r=true then do let ok <- isTrue c env (eval c env);pure (ForInStep.yield ok) else pure (ForInStep.yield r)) (fun ok s4 =>
      if ok=true then wpAny (model prog w) A (eval elt env) (fun x s5 =>
       wpAny (model prog w) A (call (.builtin "list.append") [acc,x]) (fun _ s6=>∃m,m < n/\I m s6) (fun _ _=>False) s5) (fun _ _=>False) s4
      else ∃m,m < n/\I m s4) (fun _ _=>False) s3) (fun _ _=>False) s2) (fun _ _=>False) s1) (fun _ _=>False) s)
  (n:Nat) (h:I n s) :
  codeAny (model prog w) A (.compLoop (.ListComp elt [⟨target,iter,ifs,0⟩] scope pos) 0 it acc env) R s:=by
 refine codeAny_loop rfl I (fun n s hI=>?_) n h;show wpAny _ A ((compTurn (.ListComp elt [⟨target,iter,ifs,0⟩] scope pos) 0 it acc env).onRaise (fun x=>do noteFrame x env;theTreesLotGoes x)) _ _ s;refine wpAny_noted (HP ?_);rw[compTurn_list];refine ae (oG (ae (aA (turn n s hI) fun r s1 h1=>?_)));cases r with
 |none=>exact aj h1
 |some v =>
  refine ae (aA h1 fun _ s2 h2=>ae (aA h2 fun _ s3 h3=>ae (aA h3 fun ok s4 h4=>?_)));cases ok with
  |false=>exact aj ⟨rfl,h4⟩
  |true=>exact ae (ae (aA h4 fun x s5 h5=>ae (aA h5 fun _ s6 h6=>aj (aj ⟨rfl,h6⟩))))
def lx (J:It) (g:TG) (ti:TT) (te:TE) (iJ:St) (Q:VK) (p:Addr) (H1:Hp):Prop:=
 ∃W:Nat->Nat->List V->St->Hp->Prop,(∃m,W 0 m [] iJ (upd H1 p (.lst []))) /\ ∀i m ys τ H2,W i m ys τ H2->H2 p=some (.lst ys) /\
  ((J.stop i H2/\Q (.ref p) H2)\/(J.go i H2 /\ ∀x H3,J.pK i H2 x H3->g x τ H3 fun dG H4=>ti dG H4 fun b H5 =>
   if b=true then te dG H5 fun y H6=>H6 p=some (.lst ys)/\ys.length < sizeLine /\ ∃m',m' < m/\W (i+1) m' (ys ++ [y]) dG (upd H6 p (.lst (ys ++ [y])))
   else ∃m',m' < m/\W (i+1) m' ys dG H5))
def DG (wi:TI) (cw:List (Option Nat)) (g:TG) (ti:TT) (te:TE):TE:=fun σ H Q=>wi σ H fun J H1=>∀p,H1 p=none->lx J g ti te (pick cw σ) Q p H1
section
variable{X:Cx}{pins:List (Addr×Obj)}{σ:St}{H2:Hp}{s2:Shared}{N':List Str}{cw:List (Option Nat)}{scope:Scope}{tg elt iter:Expr}{ifs:List Expr}{pos:Pos}
def CompEnd (X:Cx) (pins:List (Addr×Obj)) (σ:St) (Q:VK) (acc:Value) (C:Addr) (s':Shared):Prop:=
 ∃ (p:Addr) (H':Hp),acc = .ref p/\Inv X pins σ H' s'/\f9 X pins H' C/\(∃m,s'.heap.Ns C m)/\Q (.ref p) H'
theorem JK {J:It}{fp:List Addr}{it:Addr}{tn:Nat->Heap->Prop}{g:TG}{ti:TT}{te:TE}{Q:VK}{E:Value->Shared->Prop}{RR:Value->Addr->Result->Shared->Prop} (hc:X.calm=true) (S:bX X.N X.env.scope N' cw scope)
  (I2:Inv X pins σ H2 s2) (T:Turn X.prog X.w X.K tg J fp it tn) (st:tn 0 s2.heap) (hf:∀b∈fp,f9 X pins H2 b)
  (hb:∀s H fp,PG (cR X N' scope s H fp) tg g/\rb (cR X N' scope s H fp) ifs ti/\PE (cR X N' scope s H fp) elt te)
  (hw:∀p,H2 p=none->lx J g ti te (pick cw σ) Q p H2) (hR:∀acc C s',CompEnd X pins σ Q acc C s'->RR acc C (.ok .next) s') :
  wpAny (model X.prog X.w) X.A (newList []) (fun acc s3=>wpAny (model X.prog X.w) X.A (newFunctionEnv scope X.env.globals (gU X.env.cells scope.names []) [] X.env.qual none .none (some X.env)) (fun xi s4 =>
   codeAny (model X.prog X.w) X.A (.compStart (.ListComp elt [⟨tg,iter,ifs,0⟩] scope pos) 0 (.ref it) acc { xi with scope:=relabel scope X.env }) (RR acc xi.locals) s4) E s3) E s2:=by
 refine j9 ?_;have I3:Inv X pins σ (upd H2 s2.heap.objs.size (.lst [])) { s2 with heap:=s2.heap.push { cls:= .type "list",data:= .seq ([]:List Value).toArray } }:=
  I2.D1 (its:= []) (t':=s2.toks) .nil (bG _)
 have hp:=hw s2.heap.objs.size I2.fresh;generalize e3:({ s2 with heap:=s2.heap.push { cls:= .type "list",data:= .seq ([]:List Value).toArray } }:Shared)=s3 at I3 ⊢;generalize eH:upd H2 s2.heap.objs.size (.lst [])=H3 at I3 hp;have jz:∀b∈fp,b < s2.heap.objs.size:=fun b hb=>let ⟨_,e,_⟩:=T.obj _ _ st b hb;aR e;have get3:∀b o,s2.heap.get? b=some o->s3.heap.get? b=some o:=fun b o e=>by rw[<-e3];exact aT _ e
 have pL:tn 0 s3.heap:=T.keep _ _ _ st fun b _ o e=>get3 b o e;have gI:∀b∈fp,f9 X pins H3 b:=fun b hb=>⟨by rw[<-eH,ah (bj (jz b hb))];exact(hf b hb).1,(hf b hb).2⟩
 have xO:∀b∈fp,∃o,s3.heap.get? b=some o:=fun b hb=>let ⟨o,e,_⟩:=T.obj _ _ pL b hb;⟨o,e⟩;refine Ja fun h4 hn hk gX ET=>?_;have I4:Inv (cR X N' scope s3 H3 fp) [] (pick cw σ) H3 { s3 with heap:=h4 }:=Kn I3 S gI xO hn hk gX ET;have xP:tn 0 ({ s3 with heap:=h4 }:Shared).heap:=T.keep _ _ _ pL fun b _ o e=>hk b o e;obtain⟨hG,hI,hE⟩:=hb s3 H3 fp;obtain⟨W,⟨m0,w0⟩,turn⟩:=hp;rw[eH]at w0;have lA:∀ {H':Hp},(∀b∈fp,H' b=none) -> ∀b∈fp,f9 (cR X N' scope s3 H3 fp) [] H' b:=fun hn b hb =>
  ⟨hn b hb,(I4.ok.m3 b hb).1,I4.ok.mX b hb,.inl hb,fun x c e=>(I4.ok.m3 b hb).2 x c e,fun p hp=>absurd (show p∈([]:List (Addr×Obj)) from hp) (by simp)⟩
 have loop:codeAny (model X.prog X.w) X.A (.compLoop (.ListComp elt [⟨tg,iter,ifs,0⟩] scope pos) 0 (.ref it) (.ref s2.heap.objs.size) (CH scope s3.heap.objs.size X.env))
   (RR (.ref s2.heap.objs.size) s3.heap.objs.size) { s3 with heap:=h4 }:=by
  refine IJ (fun n s'=>∃i ys τ H',Inv (cR X N' scope s3 H3 fp) [] τ H' s'/\tn i s'.heap/\(∀b∈fp,H' b=none)/\W i n ys τ H') ?_ m0 ⟨0,[],_,H3,I4,xP,fun b hb=>(gI b hb).1,w0⟩;rintro n s5 ⟨i,ys,τ,H5,I5,om,rG,w5⟩;obtain⟨pQ,w5⟩:=turn i n ys τ H5 w5;rcases w5 with⟨stop,qn⟩|⟨go,step⟩
  ·refine aA (T.done (cR X N' scope s3 H3 fp) rfl rfl rfl hc i [] s5 τ H5 _ I5 (lA rG) om stop) fun r s6 ⟨hr,I6⟩=>?_
   subst hr;refine hR _ _ _ ⟨_,H5,rfl,?_,?_,?_,qn⟩
   ·exact I3.tL (s':=s6) (ch:=fp) I6.os I6.base I6.ar I6.bare fun b hb=>⟨(gI b hb).2.2.2.1,(gI b hb).2.1,(gI b hb).2.2.2.2.1,(gI b hb).2.2.2.2.2⟩
   ·exact I3.kq (aO _) I6.free
   ·obtain⟨m,hm,_⟩:=I6.loc
    exact⟨m,hm⟩
  ·refine aA (T.item (cR X N' scope s3 H3 fp) rfl rfl rfl hc i [] s5 τ H5 _ I5 (lA rG) om go) fun r s6 ⟨u,hr,h6⟩=>?_
   subst hr;refine aA h6 fun _ s7 ⟨x,H7,I7,r7,y7,rK,EU⟩=>?_;have EV:=I7.pinned (lA EU) (T.obj _ _ rK);refine aA (hG _ s7 τ H7 x u _ EV r7 (step x H7 y7)) fun _ s8 ⟨rL,H8,I8,q8⟩=>?_;refine aA (hI _ s8 rL H8 _ I8 q8) fun b s9 ⟨H9,I9,q9⟩=>?_;have again:∀ {gJ:St}{H':Hp}{s':Shared}{cq:List V}{m':Nat},Inv (cR X N' scope s3 H3 fp) ([]++tw fp s7.heap) gJ H' s'->m' < n->W (i+1) m' cq gJ H' ->
     ∃m,m < n /\ ∃i ys τ H',Inv (cR X N' scope s3 H3 fp) [] τ H' s'/\tn i s'.heap/\(∀b∈fp,H' b=none)/\W i m ys τ H':=fun {gJ H' s' cq m'} I' hm w'=>by
    refine⟨m',hm,i+1,cq,gJ,H',I'.vU,T.keep _ _ _ rK fun b hb o e=>(I'.pin (b,o) (gk _ (gk _ (sG hb e)))).1,fun b hb=>?_,w'⟩;obtain⟨o,e,d⟩:=T.obj _ _ rK b hb;exact(I'.pin (b,o) (gk _ (gk _ (sG hb e)))).2.1
   cases b with
   |false =>
    obtain⟨m',hm,w'⟩:=q9;exact again I9 hm w'
   |true =>
    refine aA (hE _ s9 rL H9 _ I9 q9) fun y EW ⟨z,uI,EX,EY,D4,D5,m',hm,w'⟩=>?_;refine aA (k9 _ EW rL uI (.ref s2.heap.objs.size) [z] (.ref s2.heap.objs.size) [y] (fun _ H'=>H'=upd uI s2.heap.objs.size (.lst (ys ++ [z]))) EX rfl (.cons EY .nil) ⟨_,_,_,rfl,rfl,D4,D5,rfl⟩) fun _ s11 ⟨_,EZ,E1,_,rM⟩=>?_;subst rM;exact again E1 hm w'
 exact codeAny_compStart_list loop (T.self X.A 0 _ _ _ xP loop)
theorem dv {wi:TI}{g:TG}{ti:TT}{te:TE} (hc:X.calm=true) (S:bX X.N X.env.scope N' cw scope) (hi:PI X tg iter wi)
  (hb:∀s H fp,PG (cR X N' scope s H fp) tg g/\rb (cR X N' scope s H fp) ifs ti/\PE (cR X N' scope s H fp) elt te)
  (hs:∀x,foldedSetIterable iter X.env x=pure x:=by intro _;rfl):PE X (.ListComp elt [⟨tg,iter,ifs,0⟩] scope pos) (DG wi cw g ti te):=by
 intro pins s σ H Q I h;rw[eval_ListComp];refine Q4 (use:=none) rfl hs (B1 fun n hn=>zk I S hn) S.kind (fun x hx hl=>sC S.keys (by rw[<-hl];exact hx)) ?_
 refine aA (hi pins s σ H _ I h) fun v s1 h1=>aA h1 fun rD s2 h2=>?_;obtain⟨it,fp,tn,J,H2,e,I2,T,jW,f2,hw⟩:=h2;subst e;refine JK (RR:=fun acc C=>compPost (model X.prog X.w) X.A X.xe none (EP X pins σ Q) acc C) hc S I2 T jW f2 hb hw ?_;rintro acc C s' ⟨p,H',rfl,I',fC,⟨m,hm⟩,q⟩;refine⟨m,hm,fun h' kG=>⟨.ref p,H',?_,rfl,q⟩⟩;exact I'.turned (it:=C) (t':=s'.toks) (fun b o hb e=>(kG.2 b hb).trans e) fC.1 fC.2.1 fC.2.2.2.1 fC.2.2.2.2.1 fC.2.2.2.2.2
theorem qA {wi:TI}{g:TG}{ti:TT}{te:TE}{i:Nat}{x:Str}{pos' MK:Pos} (hc:X.calm=true) (S:bX X.N X.env.scope N' cw scope) (hN:X.N.Nodup) (hx:X.N[i]? = some x) (hl:X.env.scope.names.lookup x=some .local) (hi:PI X tg iter wi)
  (hb:∀s H fp,PG (cR X N' scope s H fp) tg g/\rb (cR X N' scope s H fp) ifs ti/\PE (cR X N' scope s H fp) elt te)
  (hsw:swapsWith (.ListComp elt [⟨tg,iter,ifs,0⟩] scope pos) (some (.Name x pos')) MK.line X.env=pure true:=by rfl)
  (hs:∀x,foldedSetIterable iter X.env x=pure x:=by intro _;rfl):PS X (.Assign [.Name x pos'] (.ListComp elt [⟨tg,iter,ifs,0⟩] scope pos) MK) (DV (DG wi cw g ti te) (tM i)):=by
 intro pins s σ H D I h;rw[exec_Assign_Name_used _ _ _ _ hsw];refine ae (oG (ae ?_));show wpAny _ X.A (do let _ <- comprehension (.ListComp elt [⟨tg,iter,ifs,0⟩] scope pos) scope X.env _ (newList []) false (eval iter X.env) (some (assign (.Name x pos') X.env))) _ _ s;refine ae (aA (Q4 (use:=some (assign (.Name x pos') X.env)) (Q:=fun _ s'=>SP X pins D .next s') rfl hs (B1 fun n hn=>zk I S hn) S.kind (fun x hx hl=>sC S.keys (by rw[<-hl];exact hx)) ?_) fun _ s' hq=>aj (aj hq))
 refine aA (hi pins s σ H _ I h) fun v s1 h1=>aA h1 fun rD s2 h2=>?_;obtain⟨it,fp,tn,J,H2,e,I2,T,jW,f2,hw⟩:=h2;subst e;refine JK (Q:=fun v H'=>D.nx (σ.set i (some v)) H') (RR:=fun acc C=>compPost (model X.prog X.w) X.A X.xe (some (assign (.Name x pos') X.env)) (fun _ s'=>SP X pins D .next s') acc C) hc S I2 T jW f2 hb hw ?_;rintro acc C s' ⟨p,H',rfl,I',fC,⟨m,hm⟩,q⟩;show wpAny (model X.prog X.w) X.A (assign (.Name x pos') X.env (.ref p)) _ _ s';refine wpAny_assign_Name (JB (v:= .ref p) I' hN hx (.inl hl) rfl (fun lG I'' ⟨a,hsb,ha⟩=>?_) (.inr hl));have hCa:C≠a:=by
  rcases ha with ha|ha
  ·rw[ha];exact fC.2.1
  ·exact fun z=>fC.2.2.2.2.1 _ _ ha z.symm
 refine⟨m,hm.sameBut hsb hCa,fun h' kG=>⟨_,H',?_,q⟩⟩;exact I''.turned (it:=C) (t':=lG.toks) (fun b o hb e=>(kG.2 b hb).trans e) fC.1 fC.2.1 fC.2.2.2.1 fC.2.2.2.2.1 fC.2.2.2.2.2
end
end L2
namespace L2
open PySem PySem.Spec PyProof.Rows PySem.W PySem.Builtin.ObjectAttr
def km (h:Heap) (C:Addr) (us:List Value):Heap:=(h.push { cls:= .type "tuple",data:= .seq us.toArray }).push { cls:= .ref C,data:= .fields #[.ref h.objs.size,.none,.none,.none,.bool false,.none] }
theorem sF {h:Heap}{C:Addr}{us:List Value}{b:Addr}{o:Obj} (e:h.get? b=some o):(km h C us).get? b=some o:=aT _ (aT _ e)
theorem Cn {h:Heap}{C:Addr}{us:List Value}:(km h C us).get? (h.objs.size+1)=some { cls:= .ref C,data:= .fields #[.ref h.objs.size,.none,.none,.none,.bool false,.none] }:=by
 unfold km;heap_get
section
variable{P:Program}{w:World}{A:Around}{E:Value->Shared->Prop}{h:Heap}{gs:Array GenState}{dr:Drawn}{tk:Nat}{os:OsState}
variable{cn qn:Str}{C N:Addr}{bases up Ay:List Value}{t8:Bool}{sl:List Str}{subs:List Value}{ML:Bool}{MM:Option Bool}{od:Option Addr}{e0 e1 e2 e3 e5:Option Value}{B Az N1:String}
variable{mN:Str->Option Value}{us:List Value}{fI:Addr}{oI:Obj}
theorem R' {Q:Fin->Shared->Prop} (F:ExcBaseFacts B Az N1 Ay) (T:OwnTail h Ay up) (atC:h.get? C=some (excClassObj cn qn C N bases up t8 sl subs ML MM od e0 e1 e2 e3 e5 Az)) (E3:h.Ns N mN)
  (hi:mN "__init__" = some (.ref fI)) (cI:h.get? fI=some oI) (E4:oI.cls = .type "function") (bw:us.length<=sizeLine)
  (run:wpAny (model P w) A (call (.ref fI) (.ref (h.objs.size+1)::us)) (fun r s'=>r = .none/\Q (.done (.ret (.ref (h.objs.size+1)))) s') E ⟨km h C us,gs,dr,tk,os⟩) :
  wpAny (model P w) A (Builtin.«type.__call__» ⟨.ref C::us,[]⟩) Q E ⟨h,gs,dr,tk,os⟩:=by
 repeat (first|with_reducible refine BG atC ?_|with_reducible refine wpAny_madeBy_exc atC ?_|wp_step)
 refine codeAny_call_builtin_code (HQ _ F.quiet) (wpAny_check_new_subT F T atC (codeAny_exc_new_subT F T atC ?_ bw));show wpAny _ _ _ _ _ (⟨km h C us,gs,dr,tk,os⟩:Shared);have MN:(km h C us).get? C=_:=sF atC;have atE:(km h C us).get? (h.objs.size+1)=_:=Cn;have has:(Value.ref C::up).contains (.ref C)=true:=List.contains_iff_mem.mpr aZ;unfold isInstance
 repeat (first|with_reducible refine BG atE ?_|(with_reducible refine wpAny_isSubtype_exc MN ?_;rw[has])|wp_step)
 refine wpAny_typeLookup_tail (mN:=mN) MN (E3.keeps fun _ _ e=>sF e) (T.keeps fun _ _ e=>sF e) F.mroIs F.init.lookup ?_;rw[hi];refine cX (ae (show wpAny _ _ (bindSpecial _ _) _ _ _ from ?_));unfold bindSpecial;refine ae (oP (T:= "function") ⟨oI,sF cI,E4⟩ ?_);rw[aB (show _ from by decide)]
 refine aj (ae (aA run fun r s' hr=>?_));obtain⟨rfl,q⟩:=hr
 wp_walk
 exact q
theorem IM {Q:Value->Shared->Prop} (F:ExcBaseFacts B Az N1 Ay) (T:OwnTail h Ay up) (atC:h.get? C=some (excClassObj cn qn C N bases up t8 sl subs ML MM od e0 e1 e2 e3 e5 Az)) (E3:h.Ns N mN)
  (hi:mN "__init__" = some (.ref fI)) (cI:h.get? fI=some oI) (E4:oI.cls = .type "function") (bw:us.length<=sizeLine)
  (run:wpAny (model P w) (A.under (.builtin "type.__call__" ⟨.ref C::us,[]⟩)) (call (.ref fI) (.ref (h.objs.size+1)::us)) (fun r s'=>r = .none/\Q (.ref (h.objs.size+1)) s') E ⟨km h C us,gs,dr,tk,os⟩) :
  wpAny (model P w) A (call (.ref C) us) Q E ⟨h,gs,dr,tk,os⟩:=by
 have l1:=tc_lookup;have l2:=tc_bind (.ref C);have ty:(⟨h,gs,dr,tk,os⟩:Shared).TypeIs (.ref C) "type" :=⟨_,atC,rfl⟩;refine oH (Q5 (show wpAny _ _ (callAny (.ref C) _) _ _ _ from ?_))
 repeat (any_goals (first|assumption|with_reducible refine BG atC ?_|wp_step))
 exact⟨rfl,codeAny_call_builtin_at (HQ _ (by decide +kernel)) entry_typeCall (wpAny_check_type_call_sub atC (R' F T atC E3 hi cI E4 bw run))⟩
end
abbrev AA:List Value:= [.type "ValueError",.type "Exception",.type "BaseException",.type "object"]
def fc (K:Frag) (C:Addr) (i:Option Value):Bool:=
  match K.lookup C with
  |some ⟨.type "type",_,.cls cls,slots⟩ =>
    (match cls.mro,slots.toList with
     |.ref C'::up,[_,_,_,_,some (.builtin n),_]=>C'==C && (n == "ValueError.__new__" && (!cls.hasDel && (tailIn K AA up && (nsOkIn K cls.ns && nsIn K cls.ns "__init__" == some i))))
     |_,_=>false)
  |_=>false
theorem TF {K:Frag}{h:Heap}{N:Addr}{mp:Str->Option Value}{n:Str}{v:Value} (X:K.In h) (G:h.Ns N mp) (e:nsIn K N n=some (some v)):mp n=some v:=by
 obtain⟨ob,ens,_,at_,da,_,look⟩:=G;unfold nsIn at e;split at e
 next _ _ _ _ _ q =>
  have two:=X _ _ q;rw[at_]at two;cases two;cases da
  split at e
  next en he =>
   cases e
   rw[<-look,nsFind,findBy,<-Array.find?_toList,he];rfl
  next=>split at e <;> cases e
 next=>cases e
structure ExcAt (h:Heap) (C:Addr) (i:Option Value):Prop where
 ex:∃bm N nm q bs z8 sn sub ab col dd k0 k1 k2 k3 k5 mN,h.get? C=some (excClassObj nm q C N bs bm z8 sn sub ab col dd k0 k1 k2 k3 k5 "ValueError.__new__")/\h.Ns N mN/\mN "__init__" = i/\OwnTail h AA bm
theorem sJ {K:Frag}{h:Heap}{C:Addr}{i:Option Value} (X:K.In h) (q:fc K C i=true):ExcAt h C i:=by
 unfold fc at q;split at q
 next od cls slots at_ =>
  split at q
  next C' up a0 a1 a2 a3 n a5 em es =>
   obtain⟨p1,q⟩:=jI.mp q;obtain⟨p2,q⟩:=jI.mp q;obtain⟨p3,q⟩:=jI.mp q;obtain⟨p4,q⟩:=jI.mp q;obtain⟨p5,p6⟩:=jI.mp q;have e1:=cT.mp p1;have e2:=cT.mp p2;have e3:cls.hasDel=false:=by simpa using p3
   have e6:=cT.mp p6;subst e1 e2;obtain⟨nm,bs,mro,ns,qn,hd,sn,sb,ab,col,del⟩:=cls;have em':mro=_:=em;have uH:del=false:=e3;subst em' uH;obtain rfl:slots = #[a0,a1,a2,a3,some (.builtin "ValueError.__new__"),a5]:=by cases slots;exact eO Array.mk es
   refine⟨⟨up,ns,nm,qn,bs,hd,sn,sb,ab,col,od,a0,a1,a2,a3,a5,h.nsMap ns,X _ _ at_,.of_isNs (isNs_of_in X p5),?_,tail_of_in X p4⟩⟩;cases i with
   |none=>exact nsMap_none_of_in X p5 e6
   |some v=>exact TF X (.of_isNs (isNs_of_in X p5)) e6
  next=>cases q
 next=>cases q
def tN:List Value->Bool
 |.ref _::r=>tN r
 |l=>l==AA
theorem SY:∀ {l:List Value},tN l=true->l=AA \/ ∃a r,l = .ref a::r/\tN r=true
 |[],e=>.inl (cT.mp e)
 |.ref a::r,e=>.inr ⟨a,r,rfl,e⟩
 |.none::r,e=>.inl (cT.mp e)
 |.bool b::r,e=>.inl (cT.mp e)
 |.int i t::r,e=>.inl (cT.mp e)
 |.float i t::r,e=>.inl (cT.mp e)
 |.str i t::r,e=>.inl (cT.mp e)
 |.bytes i t::r,e=>.inl (cT.mp e)
 |.type i::r,e=>.inl (cT.mp e)
 |.builtin i::r,e=>.inl (cT.mp e)
theorem Vq (self:Value) (l:List Value):tN l=true->refuseLoop self "__setattr__" l=pure ():=by
 induction l with
 |nil=>intro e;exact absurd e (by decide)
 |cons v r ih =>
  intro e;rcases SY e with q|⟨a,r',q,e'⟩
  ·rw[q];kernel_rfl
  ·cases q
   rw[refuseLoop_ref];exact ih e'
structure eI (K:Frag) (C:Addr):Prop where
 ga:findIn K (.ref C) "__getattribute__" = some (some (.builtin "BaseException.__getattribute__"))
 gh:findIn K (.ref C) "__getattr__" = some none
 sa:findIn K (.ref C) "__setattr__" = some (some (.builtin "object.__setattr__"))
 hd:hasDictIn K C=true
 ov:((clsIn K C).any fun cd=>tN cd.mro)=true
 be:mroIn K C (.type "BaseException")=some true
 ve:mroIn K C (.type "ValueError")=some true
 ob:mroIn K C (.type "object")=some true
 ka:findIn K (.ref C) "__class__" = some (some (.builtin "object.__class__"))
 kn:specialIn K (.builtin "object.__class__") "__get__" = some (some (.builtin "getset_descriptor.__get__"))
 kt:takesIn K (.builtin "object.__class__")=some true
section
variable{prog:Program}{w:World}{A:Around}{E:Value->Shared->Prop}{s:Shared}{K:Frag}{x C:Addr}{ox:Obj}{od:Option Obj}{name:Str}
theorem JL {R:Result->Shared->Prop}{tk:Tok}{v:Value} (X:K.In s.heap) (I:InstAt s.heap x ox C od) (c:eI K C) (no:findIn K (.ref C) name=some none)
  (go:wpAny (model prog w) A.in1 (storeInOwnDict (.ref x) (.ref C) (.str name tk) name v false) (fun fin s'=>match fin with|.done f=>R (.ok f) s'|.again c'=>c'.quiet=true/\codeAny (model prog w) A c' R s') (fun e s'=>R (.error e) s') s) :
  codeAny (model prog w) A (.call (.builtin "object.__setattr__") ⟨[.ref x,.str name tk,v],[]⟩) R s:=by
 obtain⟨cls,ic,ok⟩:=yO c.ov;have ty:Looks (model prog w) s.heap (typeOf (.ref x)) (.ref C):=I.type;have up:Looks (model prog w) s.heap (mroOf (.ref C)) cls.mro:=Looks.andThen (looks_clsIn X ic) Looks.now;have Yw:Looks (model prog w) s.heap (typeLookup (.ref C) name) none:=looks_findIn X no;refine HR BH.slot.plain BH.entry (@check_slot (model prog w) _ _ s _ _ _ (.ref x) [.str name tk,v] [] _ BH.kind BH.split (ty.andThen (BI X c.ob)) (BH.args _ _ _) ?_);rw[osa_eq,refuse_eq];refine ae (ae (ty.here (ae (up.here ?_))));rw[Vq _ _ ok];refine aj (show wpAny _ _ _ _ _ s from ?_);exact ae (ty.here (ae (Yw.here (ae (aj go)))))
theorem JM {tk:Tok}{fill expr:Bool}{Q:Value->Shared->Prop} (X:K.In s.heap) (I:InstAt s.heap x ox C od) (c:eI K C)
  (h:wpAny (model prog w) A.in1 (Builtin.«object.__getattribute__» ⟨[.ref x,.str name tk],[]⟩) (fun fin s'=>match fin with|.done (.ret v)=>wpAny (model prog w) A (handedOut v) Q E s'|_=>False) (fun _ _=>False) s) :
  wpAny (model prog w) A (getAttrBy (.ref x) (.str name tk) fill expr) Q E s:=by
 have L0:=I.type (M:=model prog w);have L1:=looks_findIn (M:=model prog w) X c.ga;have L2:=looks_findIn (M:=model prog w) X c.gh;have sub:Looks (model prog w) s.heap (isInstance (.ref x) (.type "BaseException")) true:=I.type.andThen (BI X c.be);have hx2:(Value.builtin "BaseException.__getattribute__" == Value.builtin "object.__getattribute__")=false:=by decide +kernel
 have hx1:(onTheHeap (Value.ref C) && Value.builtin "BaseException.__getattribute__" == Value.builtin "object.__getattribute__")=false:=by rw[hx2];rfl
 have hk:builtinKind "BaseException.__getattribute__" = some .slot:=by decide +kernel
 have XC:splitId "BaseException.__getattribute__" = some ("BaseException","__getattribute__"):=by decide +kernel
 unfold getAttrBy;refine cX (ae (L0.here (ae (L1.here ?_))))
 dsimp only
 rw[hx1];show wpAny _ _ (getAttrByItsOwn _ _ _ _ _ _) _ _ _;unfold getAttrByItsOwn hookBefore;refine ae ?_;rw[aB (show onTheHeap (Value.ref C)=true from rfl)];refine L2.here (ae (sf (cX ?_)));unfold callGetattribute;rw[au (show ¬ (expr && onTheHeap (Value.builtin "BaseException.__getattribute__"))=true by cases expr <;> decide)]
 unfold boundAndCalled;rw[ahQ.ga.bind];refine ae (aj (oH (HR ahQ.ga.plain PySem.F.entry_bexc_ga (@check_slot (model prog w) _ _ s "BaseException.__getattribute__" "BaseException" "__getattribute__" (.ref x) [.str name tk] [] _ hk XC sub (PySem.F.args_bexc_ga _ _) ?_))));refine k6 h (fun fin s' z=>?_) fun _ _ z=>z.elim;rcases fin with(_|_|_|_)|_ <;> first|exact z|exact z.elim
theorem UB {tk:Tok}{v:Value}{Q:Fin->Shared->Prop} (X:K.In s.heap) (I:InstAt s.heap x ox C od) (hf:findObj K C od name=some (.value v)) (h:Q (.done (.ret v)) s) :
  wpAny (model prog w) A (Builtin.«object.__getattribute__» ⟨[.ref x,.str name tk],[]⟩) Q E s:=by
 have L0:=I.type (M:=model prog w);have L1:=looks_find (M:=model prog w) X I hf;refine ae (aj (ae (aj (ae (L0.here (ae (L1.here ?_)))))));exact aj h
theorem Wo {expr:Bool}{v:Value}{Q:Value->Shared->Prop} (X:K.In s.heap) (I:InstAt s.heap x ox C od) (c:eI K C) (hf:findObj K C od name=some (.value v)) (hh:handedIn v=true)
  (h:Q v { s with toks:=s.toks+1 }):wpAny (model prog w) A (getAttr (.ref x) name expr) Q E s:=by
 unfold getAttr;refine ae (wpAny_mkText ?_);exact JM (s:={ s with toks:=s.toks+1 }) X I c (UB (s:={ s with toks:=s.toks+1 }) X I hf (handed_on hh h))
theorem UC {Q:Option Value->Shared->Prop} (X:K.In s.heap) (I:InstAt s.heap x ox C od) (c:eI K C) (h:Q (some (.ref C)) { s with toks:=s.toks+1 }):wpAny (model prog w) A (getAttr? (.ref x) "__class__") Q E s:=by
 have hf:findObj K C od "__class__" = some (.bind (.builtin "getset_descriptor.__get__") (.builtin "object.__class__")):=by
  obtain⟨cd,hc,_⟩:=yO c.hd;unfold findObj;rw[hc,HU,c.ka,HU]
  dsimp only
  rw[c.kn,HU]
  dsimp only
  rw[c.kt,HU]
 unfold getAttr? getAttrBy?;refine ae (wpAny_mkText (ae (sf ?_)));have L0:=I.type (M:=model prog w);have L1:=looks_find (M:=model prog w) X I hf;refine JM (s:={ s with toks:=s.toks+1 }) X I c ?_;refine ae (aj (ae (aj (ae (HV (s:={ s with toks:=s.toks+1 }) L0 (ae (HV (s:={ s with toks:=s.toks+1 }) L1 ?_)))))));show wpAny _ _ (holding [.builtin "object.__class__"] (call (.builtin "getset_descriptor.__get__") [.builtin "object.__class__",.ref x,.ref C]) >>= ret) _ _ _;refine ae (cX (oH (class_get (s:={ s with toks:=s.toks+1 }) (ox:=ox) (od:=od) X I c.ob ?_)));exact aj (handed_on rfl (aj h))
theorem TH {M:Model}{h:Heap} (X:K.In h) (c:eI K C):Looks M h (isType (.ref C)) true:=by
 obtain⟨cls,ic,_⟩:=yO c.hd;unfold clsIn at ic;split at ic
 next at_ =>
  intro A' Q' E' s' k q;exact ae (yP (part:=some headPart) (k _ _ (X _ _ at_)) (aj q))
 next=>cases ic
theorem zu (c:eI K C):KitX K (.ref x) (.ref C) (fun h=>InstAt h x ox C od) where
 ty:=fun _ _ _ I=>I.type
 it:=fun _ _ X _=>TH X c
 ne:=fun h tp _ _ _ _ X tup=>by
  obtain⟨cls,ic,_⟩:=yO c.hd;cases q:(Value.ref C == .ref tp) with
  |false=>rfl
  |true =>
   have e:C=tp:=Value.ref.inj (cT.mp q);unfold clsIn at ic;split at ic
   next at_ =>
    have two:=(X _ _ at_).symm;rw[e,tup]at two;cases two
   next=>cases ic
 ca:=fun X I k=>UC X I c k
end
theorem bu.there {P:Program}{w:World}{H:Hp}{h:Heap}{a:Addr}{o:HO} (x:bu P w H h a o):∃ob,h.get? a=some ob:=by
 cases o with
 |lst xs=>obtain⟨_,_,_,_,e⟩:=x;exact⟨_,e⟩
 |tup xs=>obtain⟨_,_,_,ob,e,_⟩:=x;exact⟨_,e⟩
 |dK kvs=>obtain⟨_,_,_,_,o,_,_,e,_⟩:=x;exact⟨_,e⟩
 |dT kvs=>obtain⟨_,_,_,_,o,_,_,e,_⟩:=x;exact⟨_,e⟩
 |set S n=>obtain⟨o,_,_,_,e,_⟩:=x;exact⟨_,e⟩
 |ins C dx fs=>obtain⟨_,_,_,e,_⟩:=x;exact⟨_,e⟩
 |own y=>exact x
 |xd fs=>obtain⟨_,⟨_,_,_,e,_⟩,_⟩:=x;exact⟨_,e⟩
 |xu lo hi=>obtain⟨_,_,_,e⟩:=x;exact⟨_,e⟩
 |dE ob u=>obtain⟨e,_⟩:=x;exact⟨_,e⟩
 |oh ps=>exact⟨_,x⟩
 |met f y=>exact⟨_,x⟩
 |ext φ=>exact x.2.1
section
variable{X:Cx}{pins:List (Addr×Obj)}{σ:St}{H:Hp}{s:Shared}{h':Heap}{a:Addr}{o:HO}
theorem Inv.Ds (I:Inv X pins σ H s) (e:s.heap.get? a=none):H a=none:=by
 cases q:H a with
 |none=>rfl
 |some u =>
  obtain⟨ob,z⟩:=(I.ar a u q).there;rw[e]at z;cases z
theorem Inv.put (I:Inv X pins σ H s) (k:∀b u,s.heap.get? b=some u->h'.get? b=some u) (e:s.heap.get? a=none) (new:bu X.prog X.w (upd H a o) h' a o):Inv X pins σ (upd H a o) { s with heap:=h' }:=by
 have hn:=I.Ds e;have ne:∀b u,s.heap.get? b=some u->b≠a:=fun b u q z=>by rw[z,e]at q;cases q
 refine I.un (t':=s.toks) ⟨fun b u q n _ _=>k b u q,fun b u q n _ _=>⟨u.slots,k b u q⟩,fun b u q n _=>by rw[ah (ne b u q)];exact n,fun b u q _=>⟨u,k b u q⟩,fun b xs q=>by rw[ah (aq q hn)];exact q,
  fun b u v q=>by rw[ah (aq q hn)];exact q,fun b ps q=>⟨#[],by rw[ah (aq q hn),q];simp⟩⟩ fun b u q=>?_
 by_cases hb:b=a
 ·subst hb;rw[ag]at q;cases q;exact new
 ·rw[ah hb]at q
  exact(I.ar b u q).ie (fun c v _ z=>k c v z) (fun c z=>by rw[ah (aq z hn)];exact z) fun c xs z=>by rw[ah (aq z hn)];exact z
end
def cf (C:Addr) (dx:Option Addr) (a:Addr):HO:= .ext fun h=>∃t,h.get? a=some { cls:= .ref C,dict:=dx,data:= .fields #[.ref t,.none,.none,.none,.bool false,.none] }
def d7 (d:Addr) (fs:List (Str×V)):HO:= .ext fun h=>fs.length<=100 /\ ∃mA,h.Ns1 d mA/\(∀f,ib (fs.lookup f) (mA f))/\PySem.Within mA (fs.map (·.1))
section
variable{P:Program}{w:World}{H:Hp}{h:Heap}{a d C:Addr}{dx:Option Addr}{fs:List (Str×V)}
theorem zE {t:Addr} (e:h.get? a=some { cls:= .ref C,dict:=dx,data:= .fields #[.ref t,.none,.none,.none,.bool false,.none] }):bu P w H h a (cf C dx a):=
 ⟨⟨t,e⟩,⟨_,e⟩,fun _ _ ⟨t,q⟩ k=>⟨t,k _ q⟩⟩
theorem Lc {mA:Str->Option Value} (z:fs.length<=100) (n:h.Ns1 d mA) (r:∀f,ib (fs.lookup f) (mA f)) (wi:PySem.Within mA (fs.map (·.1))):bu P w H h d (d7 d fs):=
 ⟨⟨z,mA,n,r,wi⟩,(let ⟨o,_,_,e,_⟩:=n;⟨o,e⟩),fun _ _ ⟨z,mA,n,r⟩ k=>⟨z,mA,n.at k,r⟩⟩
end
section
variable{X:Cx}{pins:List (Addr×Obj)}{σ:St}{H:Hp}{s:Shared}{A:Around}{E:Value->Shared->Prop}{a d C:Addr}{dx:Option Addr}{fs:List (Str×V)}{f:Str}
theorem Inv.excAt (I:Inv X pins σ H s) (e:H a=some (cf C dx a)):∃t,s.heap.get? a=some { cls:= .ref C,dict:=dx,data:= .fields #[.ref t,.none,.none,.none,.bool false,.none] }:=(I.ar a _ e).1
theorem Inv.v9 (I:Inv X pins σ H s) (e:H d=some (d7 d fs)):fs.length<=100 /\ ∃mA,s.heap.Ns1 d mA/\(∀f,ib (fs.lookup f) (mA f))/\PySem.Within mA (fs.map (·.1)):=(I.ar d _ e).1
theorem TJ {y:V}{u:Value}{Q:Unit->Shared->Prop} (I:Inv X pins σ H s) (e:H a=some (cf C none a)) (c:eI X.K C) (no:findIn X.K (.ref C) f=some none) (ry:RelV y u)
  (h:∀d s',H d=none->d≠a->Inv X pins σ (upd (upd H d (d7 d [(f,y)])) a (cf C (some d) a)) s'->Q () s'):wpAny (model X.prog X.w) A (setAttr (.ref a) f u) Q E s:=by
 obtain⟨t,at_⟩:=I.excAt e;have J:InstAt s.heap a _ C none:=⟨at_,rfl,rfl,True.intro⟩;refine PySem.W.set_plain I.bq J c.sa (JL (s:={ s with toks:=s.toks+1 }) I.bq J c no ?_);obtain⟨cls,ic,t8⟩:=yO c.hd;refine ae (aj (ae (show wpAny _ _ (instanceDict a true) _ _ _ from ?_)));refine ae (yP (s:={ s with toks:=s.toks+1 }) at_ (ae (HV (s:={ s with toks:=s.toks+1 }) (looks_clsIn I.bq ic) ?_)));rw[t8];refine ae (wpAny_alloc ?_);have fresh:s.heap.get? s.heap.objs.size=none:=Bz (aO _);have na:a≠s.heap.objs.size:=bj (aR at_);have fj:(s.heap.push { cls:= .type "dict",data:= .dict #[] }).get? a=_:=aT _ at_;refine ae (wpAny_update (s:={ s with heap:=s.heap.push { cls:= .type "dict",data:= .dict #[] },toks:=s.toks+1 }) fj (aj ?_));generalize eh:(s.heap.push { cls:= .type "dict",data:= .dict #[] }).update a (fun o=>{ o with dict:=some s.heap.objs.size })=h1;have at2:h1.get? a=some { cls:= .ref C,dict:=some s.heap.objs.size,data:= .fields #[.ref t,.none,.none,.none,.bool false,.none] }:=by
  rw[<-eh];exact lW _ fj rfl
 have xQ:∀b o,b≠a->s.heap.get? b=some o->h1.get? b=some o:=fun b o hb q=>by
  rw[<-eh,iM _ _ (aQ hb)];exact aT _ q
 have dAt:h1.get? s.heap.objs.size=some { cls:= .type "dict",data:= .dict #[] }:=by
  rw[<-eh,iM _ _ na];exact bZ _ rfl
 have n0:h1.Ns1 s.heap.objs.size (fun _=>none):=Heap.Ns1.of_empty ⟨_,#[],_,dAt,rfl,(fun e he=>absurd he (by simp)),fun _=>rfl⟩
 refine ae (aj (ae (wpAny_nsSet1 (s:={ s with heap:=h1,toks:=s.toks+1 }) n0 fun h2 n2 sb=>?_)));have w0:PySem.Within (fun _=>none) ([]:List Str):=fun g hg=>absurd rfl hg;obtain⟨oD,esD,epD,uJ,E5,E6⟩:=n2.count (PySem.Within.cons f u w0);refine ae (wpAny_lookBehind uJ (by rw[E5];exact pastItsLine_dict (dU E6 (by rw[d4,yQ,aE];decide))) (aj ?_))
 refine h s.heap.objs.size _ (I.Ds fresh) (aQ na) ?_;have AB:=I.Ds fresh;have aiw:∀b o,b≠a->s.heap.get? b=some o->h2.get? b=some o:=fun b o hb q=>(sb.2 b (fun z=>by rw[z,fresh]at q;cases q)).trans (xQ b o hb q)
 have N2:h2.get? a=_:=(sb.2 a na).trans at2;have heD:upd H s.heap.objs.size (d7 s.heap.objs.size [(f,y)]) a=some (cf C none a):=by rw[ah na];exact e
 have I1:Inv X pins σ (upd H a (cf C (some s.heap.objs.size) a)) { s with heap:=h1,toks:=s.toks+1 }:=by
  refine I.write (x:=a) (e:=a) (by rw[e];exact True.intro) (.inl rfl) (fun b u hb q=>xQ b u hb q) ⟨_,at2⟩ (zE at2)
 have uK:upd H a (cf C (some s.heap.objs.size) a) s.heap.objs.size=none:=by rw[ah (aQ na)];exact AB
 have cm:upd (upd H s.heap.objs.size (d7 s.heap.objs.size [(f,y)])) a (cf C (some s.heap.objs.size) a)=upd (upd H a (cf C (some s.heap.objs.size) a)) s.heap.objs.size (d7 s.heap.objs.size [(f,y)]):=by
  funext b
  unfold upd
  by_cases h1:b=a
  ·subst h1;rw[aB rfl,au na,aB rfl]
  ·rw[au h1]
   by_cases h2:b=s.heap.objs.size
   ·rw[aB h2,aB h2]
   ·rw[au h2,au h2,au h1]
 rw[cm];have AD:upd H a (cf C (some s.heap.objs.size) a) a=some (cf C (some s.heap.objs.size) a):=ag;have fp:f9 X pins (upd H a (cf C (some s.heap.objs.size) a)) s.heap.objs.size:=by
  have z:=I.kq (H':=upd H a (cf C (some s.heap.objs.size) a)) (aO _) uK;exact z
 have I2:Inv X pins σ (upd H a (cf C (some s.heap.objs.size) a)) { s with heap:=h2,toks:=s.toks+2 }:=
  Inv.turned (s:={ s with heap:=h1,toks:=s.toks+1 }) (h':=h2) I1 (it:=s.heap.objs.size) (t':=s.toks+2) (fun b o hb q=>(sb.2 b hb).trans q) fp.1 fp.2.1 fp.2.2.2.1 fp.2.2.2.2.1 fp.2.2.2.2.2
 refine⟨I2.ok,I2.os,I2.bare,?_,I2.loc,I2.cell,?_,?_,?_,?_,I2.len⟩
 ·have B:=I2.base
  have nb:∀b o,X.cC.heap.get? b=some o->b ∉ X.ex->b≠s.heap.objs.size:=fun b o q hx z=>by
   obtain⟨o',q'⟩:=I.base.there b o q hx;rw[z,fresh]at q';cases q'
  refine⟨B.keep,B.slot,fun b o q n hx=>by rw[ah (nb b o q hx)];exact B.free b o q n hx,B.there,fun b xs q=>?_,fun b o u q=>?_,fun b ps q=>?_⟩
  ·have z:=B.jR b xs q;rw[ah (aq z uK)];exact z
  ·have z:=B.jt b o u q;rw[ah (aq z uK)];exact z
  ·obtain⟨m,z⟩:=B.jS b ps q;exact⟨m,by rw[ah (aq z uK)];exact z⟩
 ·rw[ah (aQ fp.2.1)];exact I2.free
 ·intro x c q;rw[ah (fp.2.2.2.2.1 x c q)];exact I2.gT x c q
 ·intro p hp
  obtain⟨p1,p2,p3,p4,p5⟩:=I2.pin p hp;exact⟨p1,by rw[ah (fp.2.2.2.2.2 p hp)];exact p2,p3,p4,p5⟩
 ·intro b o q
  by_cases hb:b=s.heap.objs.size
  ·subst hb
   rw[ag]at q;cases q;refine Lc (by simp) n2 (fun g=>?_) (fun g hg=>?_)
   ·show ib (List.lookup g [(f,y)]) (if g=f then some u else none)
    rw[iO]
    by_cases q:g=f
    ·rw[aB q,cT.mpr q];exact ry
    ·rw[au q,nB.mpr q];exact True.intro
   ·by_cases q:g=f
    ·rw[q];simp
    ·exact absurd (au q) hg
  ·rw[ah hb]at q
   exact(I2.ar b o q).ie (fun _ _ _ z=>z) (fun c z=>by rw[ah (aq z uK)];exact z) fun c xs z=>by rw[ah (aq z uK)];exact z
theorem S' {y:V}{u:Value}{Q:Unit->Shared->Prop} (I:Inv X pins σ H s) (e:H a=some (cf C (some d) a)) (ed:H d=some (d7 d fs)) (c:eI X.K C) (no:findIn X.K (.ref C) f=some none) (ry:RelV y u) (bw:fs.length < 100)
  (h:∀s',Inv X pins σ (upd H d (d7 d (iG f y fs))) s'->Q () s'):wpAny (model X.prog X.w) A (setAttr (.ref a) f u) Q E s:=by
 obtain⟨t,at_⟩:=I.excAt e;obtain⟨_,mA,n,r,wi⟩:=I.v9 ed;obtain⟨od,iu,look⟩:=sI n;have J:InstAt s.heap a _ C (some od):=⟨at_,rfl,rfl,iu⟩;refine PySem.W.set_plain I.bq J c.sa (JL (s:={ s with toks:=s.toks+1 }) I.bq J c no ?_);obtain⟨cls,ic,t8⟩:=yO c.hd;refine ae (aj (ae (show wpAny _ _ (instanceDict a true) _ _ _ from ?_)));refine ae (yP (s:={ s with toks:=s.toks+1 }) at_ (ae (HV (s:={ s with toks:=s.toks+1 }) (looks_clsIn I.bq ic) ?_)));rw[t8];refine aj (a:=some d) (ae (aj (ae (wpAny_nsSet1 (s:={ s with toks:=s.toks+1 }) n fun h2 n2 sb=>?_))));obtain⟨oD,esD,epD,uJ,E5,E6⟩:=n2.count (PySem.Within.cons f u wi);refine ae (wpAny_lookBehind uJ (by rw[E5];exact pastItsLine_dict (dU E6 (by rw[d4,ax,aE];omega))) (aj ?_))
 refine h _ (I.write (t':=s.toks+2) (x:=d) (e:=d) (by rw[ed];exact True.intro) (.inl rfl) (fun b o hb q=>(sb.2 b hb).trans q) ⟨oD,uJ⟩ ?_)
 refine Lc (by have:=IY f y fs;omega) n2 (fun g=>?_) (fun g hg=>?_)
 ·show ib ((iG f y fs).lookup g) (if g=f then some u else mA g)
  rw[IX]
  by_cases q:g=f
  ·rw[aB q,aB q];exact ry
  ·rw[au q,au q];exact r g
 ·by_cases q:g=f
  ·rw[q];exact(Cj f y fs).1
  ·exact(Cj f y fs).2 g (wi g fun z=>hg ((au q).trans z))
end
end L2
namespace L2
open PySem PySem.Spec PyProof.Rows PySem.W
mutual
inductive Rep (H:Hp):V->PyData->Prop where
 |aF:Rep H .aF .none
 |bl (b:Bool):Rep H (.bl b) (.bool b)
 |int (i:Int):Rep H (.int i) (.int i)
 |str (x:Str):Rep H (.str x) (.str x)
 |lst {a:Addr}{xs:List V}{ds:List PyData}:H a=some (.lst xs)->gD H xs ds->Rep H (.ref a) (.list ds)
 |tup {a:Addr}{xs:List V}{ds:List PyData}:H a=some (.tup xs)->gD H xs ds->Rep H (.ref a) (.tuple ds)
inductive gD (H:Hp):List V->List PyData->Prop where
 |nil:gD H [] []
 |cons {x:V}{d:PyData}{xs:List V}{ds:List PyData}:Rep H x d->gD H xs ds->gD H (x::xs) (d::ds)
end
section
variable{X:Cx}{pins:List (Addr×Obj)}{σ:St}{H H':Hp}{s:Shared}
mutual
theorem Rep.reads (I:Inv X pins σ H s):∀ {v:V}{d:PyData}{u:Value},Rep H v d->RelV v u -> ∃as,Reads s.heap u d as
 |_,_,_,.aF,r=>by cases r;exact⟨_,.none⟩
 |_,_,_,.bl b,r=>by cases r;exact⟨_,.bool b⟩
 |_,_,_,.int i,r=>by obtain⟨t,rfl⟩:=r;exact⟨_,.int i t⟩
 |_,_,_,.str x,r=>by obtain⟨t,rfl⟩:=r;exact⟨_,.str x t⟩
 |_,_,_,.lst (a:=a) (xs:=xs) e rs,r=>by
  cases r
  obtain⟨_,its,n,rv,at_⟩:=(show bu X.prog X.w H s.heap a (.lst xs) from I.ar a _ e);obtain⟨as,ra⟩:=gD.reads I rs rv;exact⟨_,.list at_ rfl rfl ra⟩
 |_,_,_,.tup (a:=a) (xs:=xs) e rs,r=>by
  cases r
  obtain⟨_,its,rv,ob,at_,hc,n,hd,_⟩:=(show bu X.prog X.w H s.heap a (.tup xs) from I.ar a _ e);obtain⟨as,ra⟩:=gD.reads I rs rv;exact⟨_,.tuple at_ hc hd ra⟩
theorem gD.reads (I:Inv X pins σ H s):∀ {vs:List V}{ds:List PyData}{us:List Value},gD H vs ds->Vals vs us -> ∃as,ReadsAll s.heap us ds as
 |_,_,_,.nil,r=>by cases r;exact⟨_,.nil⟩
 |_,_,_,.cons r rs,rv=>by
  cases rv with
  |cons q qs =>
   obtain⟨as,h1⟩:=Rep.reads I r q;obtain⟨bs,h2⟩:=gD.reads I rs qs;exact⟨_,.cons h1 h2⟩
end
mutual
theorem Rep.same:∀ {v:V}{d:PyData},Rep H v d->ao H H'->Rep H' v d
 |_,_,.aF,_=>.aF
 |_,_,.bl b,_=>.bl b
 |_,_,.int i,_=>.int i
 |_,_,.str x,_=>.str x
 |_,_,.lst e rs,k=>.lst (k _ _ e) (gD.same rs k)
 |_,_,.tup e rs,k=>.tup (k _ _ e) (gD.same rs k)
theorem gD.same:∀ {vs:List V}{ds:List PyData},gD H vs ds->ao H H'->gD H' vs ds
 |_,_,.nil,_=>.nil
 |_,_,.cons r rs,k=>.cons (Rep.same r k) (gD.same rs k)
end
end
section
variable{X:Cx}
def Aa:R2:=fun x y H Q=>∃da db,Rep H x da/\Rep H y db/\da.canLay0=true/\db.canLay0=true/\da.depth<=60/\Q (.bl (PyData.eqv da db)) H
def Ab:R2:=fun x y H Q=>∃da db,Rep H x da/\Rep H y db/\da.canLay0=true/\db.canLay0=true/\da.depth<=60/\Q (.bl (!PyData.eqv da db)) H
theorem tx (hu:X.A.units+64 < cLine):cE X (compareOp .Eq) Aa:=by
 intro pins s σ H x y v u Q I rx ry h;obtain⟨da,db,r1,r2,l1,l2,dp,q⟩:=h;obtain⟨as,h1⟩:=r1.reads I rx;obtain⟨bs,h2⟩:=r2.reads I ry;exact SeqAt.compareEq_reads h1 h2 l1 l2 (by omega) ⟨.bl _,H,I,rfl,q⟩
theorem zM (hu:X.A.units+64 < cLine):cE X (compareOp .NotEq) Ab:=by
 intro pins s σ H x y v u Q I rx ry h;obtain⟨da,db,r1,r2,l1,l2,dp,q⟩:=h;obtain⟨as,h1⟩:=r1.reads I rx;obtain⟨bs,h2⟩:=r2.reads I ry;exact SeqAt.compareNe_reads h1 h2 l1 l2 (by omega) ⟨.bl _,H,I,rfl,q⟩
def mJ (H:Hp) (x:V):Prop:=(∃z:Str,x = .str z/\z.length<=100000)\/x = .aF \/ ∃a d,x = .ref a/\Rep H x d/\d.showable=true/\d.hasDict=false/\d.depth<=50/\d.shown.length<=100000
def ZX (te:TE):TE:=fun σ H Q=>te σ H fun x H1=>mJ H1 x /\ ∀y:Str,y.length<=100000->Q (.str y) H1
theorem zN {e:Expr}{te:TE}{pos:Pos} (hu:X.A.units+64 < cLine) (hg:X.A.guards=some []) (he:PE X e te):PE X (.FormattedValue e (-1) none pos) (ZX te):=by
 intro pins s σ H Q I h;refine wpAny_FormattedValue_plain (aA (he pins s σ H _ I h) fun v s1 ⟨x,H1,I1,rx,f,q⟩=>?_);rcases f with⟨z,rfl,hz⟩|rfl|⟨a,d,rfl,rd,hs,hd,hp,hl⟩
 ·obtain⟨t,rfl⟩:=rx
  exact wpAny_formatField_str ⟨.str z,H1,I1,⟨_,rfl⟩,q z hz⟩ ⟨.str z,H1,I1.tok _,⟨_,rfl⟩,q z hz⟩ (by rw[aE];omega)
 ·cases rx
  exact wpAny_formatField_none ⟨.str "None",H1,I1.tok _,⟨_,rfl⟩,q _ (by decide)⟩
 ·obtain⟨as,r⟩:=rd.reads I1 rx
  cases rx
  exact formatField_of_reads r hs (fun z=>by rw[hd]at z;cases z) hg (by omega) (fun _ _ z=>z) (fun h' u tk k=>⟨.str d.shown,H1,I1.kept k,⟨_,rfl⟩,q _ hl⟩) (by rw[aE];omega)
def PJ (X:Cx) (vs:List Expr) (n:Nat) (t:St->Hp->(Hp->Prop)->Prop):Prop:=
 ∀ (pins:List (Addr×Obj)) (s:Shared) (σ:St) (H:Hp) (acc:Str) (Q:Hp->Prop),acc.length+n * 100000<=2000000->Inv X pins σ H s->t σ H Q ->
  Joins (model X.prog X.w) X.A X.xe (evalEach vs X.env) acc (fun out s1=>out.length<=2000000 /\ ∃H1,Inv X pins σ H1 s1/\Q H1) s
def XD (te:TE) (tr:St->Hp->(Hp->Prop)->Prop):St->Hp->(Hp->Prop)->Prop:=fun σ H Q=>te σ H fun x H1=>(∃y:Str,x = .str y/\y.length<=100000)/\tr σ H1 Q
def XF:St->Hp->(Hp->Prop)->Prop:=fun _ H Q=>Q H
theorem LQ:PJ X [] 0 XF:=fun pins s σ H acc Q hz I h=>⟨by omega,H,I,h⟩
theorem oW {v:Expr}{vs:List Expr}{n:Nat}{te:TE}{tr:St->Hp->(Hp->Prop)->Prop} (hv:PE X v te) (hr:PJ X vs n tr):PJ X (v::vs) (n+1) (XD te tr):=by
 intro pins s σ H acc Q hz I h;refine aA (hv pins s σ H _ I h) fun u s1 ⟨x,H1,I1,rx,⟨y,e,hy⟩,q⟩=>?_;subst e;obtain⟨t,rfl⟩:=rx;have hl:(acc++y).length=acc.length+y.length:=strLen_append ..;exact⟨y,t,rfl,by rw[hl,aE];omega,hr pins s1 σ H1 (acc++y) Q (by rw[hl];omega) I1 q⟩
def Yx (tr:St->Hp->(Hp->Prop)->Prop):TE:=fun σ H Q=>tr σ H fun H1=>∀y:Str,y.length<=2000000->Q (.str y) H1
theorem Ld {v1 v2:Expr}{rest:List Expr}{pos:Pos}{n:Nat}{tr:St->Hp->(Hp->Prop)->Prop} (hr:PJ X (v1::v2::rest) n tr) (hn:n<=20:=by decide):PE X (.JoinedStr (v1::v2::rest) pos) (Yx tr):=by
 intro pins s σ H Q I h;have z:=hr pins s σ H Str.empty _ (by have:Str.empty.length=0:=rfl;omega) I h
 refine wpAny_JoinedStr ?_;have mono:∀ (l:List (Sem Value)) (acc:Str) (P P':Str->Shared->Prop) (s:Shared),(∀o s,P o s->P' o s)->Joins (model X.prog X.w) X.A X.xe l acc P s->Joins (model X.prog X.w) X.A X.xe l acc P' s:=by
  intro l
  induction l with
  |nil=>intro acc P P' s k q;exact k _ _ q
  |cons a l ih=>intro acc P P' s k q;exact aA q fun v s1 ⟨y,t,e,hz,q'⟩=>⟨y,t,e,hz,ih _ P P' s1 k q'⟩
 refine mono _ _ _ _ _ ?_ z;rintro o s1 ⟨hz,H1,I1,q⟩;exact⟨by rw[aE];omega,.str o,H1,I1.tok _,⟨_,rfl⟩,q o hz⟩
end
end L2
namespace L2
open PySem PySem.Spec PyProof.Rows PySem.W
section
variable{X:Cx}{pins:List (Addr×Obj)}{σ:St}{H:Hp}{s:Shared}{C fI:Addr}{us:List Value}{vs:List V}{Q:VK}{CX:ku}{k:Nat}{fd:FuncData}{ps:List Str}{sp:Sp}{E:XK}{x:Str}{p pos:Pos}{e:Expr}{es:List Expr}{t:TA}
theorem Vr (q:fc X.K C (some (.ref fI))=true) (fn:isFn X.K (.ref fI)=true) (F:aH X.prog X.w X.K X.mg X.base CX k fI fd ps sp) (hr:aV (k+1) X.A) (hb:Binds X.K fd ps []) (hx:Passes CX X E) (I:Inv X pins σ H s) (r:Vals vs us) (bw:us.length<=100)
  (h:∀e,H e=none->sp (.ref e::vs) (upd H e (cf C none e)) (fun v H2=>v = .aF/\Q (.ref e) H2) E):wpAny (model X.prog X.w) X.A (call (.ref C) us) (EP X pins σ Q) X.xe s:=by
 obtain⟨⟨up,N,nm,qn,bs,hd,sn,sb,ab,col,od,a0,a1,a2,a3,a5,mN,at_,ns,ni,T⟩⟩:=sJ I.bq q;obtain⟨oI,lk,oc⟩:=iD.mp (show(X.K.lookup fI).map (·.cls)=some (.type "function") from cT.mp fn);have h1:=h (s.heap.objs.size+1) (I.ar.fresh (oN _));have bq:=I.bq;have I2:Inv X pins σ (upd H (s.heap.objs.size+1) (cf C none (s.heap.objs.size+1))) { s with heap:=km s.heap C us }:=I.put (fun _ _ z=>sF z) (Bz (oN _)) (zE Cn);have e0:=I2.xf.make C us [];have jB:=hr.make C us [];have r2:Vals (V.ref (s.heap.objs.size+1)::vs) (Value.ref (s.heap.objs.size+1)::us):= .cons rfl r;have hl:(Value.ref (s.heap.objs.size+1)::us).length=ps.length:=by rw[<-r2.length];exact F.len _ _ _ _ h1
 have pR:=hb { s with heap:=km s.heap C us } (Value.ref (s.heap.objs.size+1)::us) I2.bq (by rw[gP];exact hl)
 rw[gP]at pR;have run:=F.run _ X.stack _ _ ⟨Value.ref (s.heap.objs.size+1)::us,[]⟩ (Value.ref (s.heap.objs.size+1)::us) _ _ E jB e0 pR r2 h1;obtain⟨hp,g,d,tk,os⟩:=s;refine IM Q6 T at_ ns ni (bq _ _ lk) oc (by rw[aE];omega) (oH (qq run fun r s' hq=>?_))
 cases r with
 |error e=>exact hx pins σ _ _ e s' I2 hq
 |ok fl =>
  cases fl with
  |ret u =>
   obtain⟨v,H',I3,rv,ev,q3⟩:=I2.after hq;subst ev;exact⟨rv,.ref (hp.objs.size+1),H',I3,rfl,q3⟩
  |next=>exact False.elim hq
  |brk=>exact False.elim hq
  |cont=>exact False.elim hq
def Mg (C:Addr) (sp:Sp) (E:XK) (t:TA):TE:=fun σ H Q=>t σ H fun vs H1=>vs.length<=100 /\ ∀e,H1 e=none->sp (.ref e::vs) (upd H1 e (cf C none e)) (fun v H2=>v = .aF/\Q (.ref e) H2) E
theorem Wq (q:fc X.K C (some (.ref fI))=true) (fn:isFn X.K (.ref fI)=true) (kp:keepIn X.K (.ref C)=true) (F:aH X.prog X.w X.K X.mg X.base CX k fI fd ps sp) (hr:aV (k+1) X.A) (hb:Binds X.K fd ps []) (hx:Passes CX X E)
  (hg:Gl X x) (hm:X.mg x=some (.ref C)) (ha:PA X (e::es) t) (i5:(x==("__debug__" : Str))=false:=by decide)
  (he:starEach (e::es) X.env=(false,eval e X.env)::starEach es X.env:=by rfl) (cS:(backTo pos (starEach es X.env)).any (·.1)=false:=by rfl):PE X (.Call (.Name x p) (e::es) [] pos) (Mg C sp E t):=by
 intro pins s σ H Q I h;refine oJ (mw I hg hm ?_ i5);refine HW (h₀:=X.base) I.ok.mod.iq kp (aA (ha pos pins s σ H _ I h) fun us s1 ⟨vs,H1,I1,r,bw,q1⟩=>⟨I1.bq,?_⟩) he cS;exact Vr q fn F hr hb hx I1 r (by show us.length<=100;rw[<-r.length];exact bw) q1
structure wt (K:Frag) (B:Addr):Prop where
 rd:readsIn K B (.type "type")=true
 ga:specialIn K (.ref B) "__getattribute__" = some (some (.builtin "type.__getattribute__"))
 fi:findCls K (.ref B) (.type "type") "__init__" = some (.val (.builtin "ValueError.__init__"))
theorem SG {a:Addr}{dx:Option Addr}{u:Value}{i:Option Value} (c:eI X.K C) (q:fc X.K C i=true) (I:Inv X pins σ H s) (e:H a=some (cf C dx a)) (h:Q .aF H) :
  wpAny (model X.prog X.w) X.A (call (.builtin "ValueError.__init__") [.ref a,u]) (EP X pins σ Q) X.xe s:=by
 obtain⟨t,at_⟩:=I.excAt e;obtain⟨⟨up,N,nm,qn,bs,hd,sn,sb,ab,col,od,a0,a1,a2,a3,a5,mN,atC,ns,ni,T⟩⟩:=sJ I.bq q;have FI:=Q6;obtain⟨hp,g,d,tk,os⟩:=s;refine oH (HR FI.init.plain FI.initEntry (wpAny_check_init_subT (rest:= [u]) FI T atC at_ rfl ?_));have fj:(hp.push { cls:= .type "tuple",data:= .seq #[u] }).get? a=some { cls:= .ref C,dict:=dx,data:= .fields #[.ref t,.none,.none,.none,.bool false,.none] }:=aT _ at_;have at2:((hp.push { cls:= .type "tuple",data:= .seq #[u] }).update a (Obj.mapFields fun z=>z.setIfInBounds 0 (.ref hp.objs.size))).get? a=some { cls:= .ref C,dict:=dx,data:= .fields #[.ref hp.objs.size,.none,.none,.none,.bool false,.none] }:=lW _ fj rfl;have fin:∀j0,EP X pins σ Q .none ⟨(hp.push { cls:= .type "tuple",data:= .seq #[u] }).update a (Obj.mapFields fun z=>z.setIfInBounds 0 (.ref hp.objs.size)),g,d,j0,os⟩:=fun j0=>by
  refine⟨.aF,upd H a (cf C dx a),?_,rfl,?_⟩
  ·exact Inv.write (s:=⟨hp,g,d,tk,os⟩) I (x:=a) (e:=a) (t':=j0) (by rw[e];exact True.intro) (.inl rfl) (fun b o hb z=>by rw[iM _ _ (aQ hb)];exact aT _ z) ⟨_,at2⟩ (zE at2)
  ·have:upd H a (cf C dx a)=H:=by
    funext b;unfold upd
    by_cases hb:b=a
    ·rw[aB hb,hb,e]
    ·rw[au hb]
   rw[this];exact h
 wp_walk
 exact fin _
def UD (X:Cx) (t:TA):TE:=fun σ H Q=>t σ H fun vs H1=>∃a C dx y i,vs = [.ref a,y]/\H1 a=some (cf C dx a)/\eI X.K C/\fc X.K C i=true/\Q .aF H1
theorem Jb {B:Addr}{apos:Pos}{pl:Sem Bool} (b:wt X.K B) (hg:Gl X x) (hm:X.mg x=some (.ref B)) (ha:PA X (e::es) t) (i5:(x==("__debug__" : Str))=false:=by decide)
  (he:starEach (e::es) X.env=(false,eval e X.env)::starEach es X.env:=by rfl) (cS:(backTo pos (starEach es X.env)).any (·.1)=false:=by rfl)
  (ht:eval (.Call (.Attribute (.Name x p) "__init__" apos) (e::es) [] pos) X.env=(do
   let ov <- eval (.Name x p) X.env
   standAt apos.atName
   let (f,first) <- holding [ov] (getMethod ov "__init__" pl)
   callWith pos f first (backTo pos (starEach (e::es) X.env)) (backToKw pos (keywordEach [] X.env))):=by rfl) :
  PE X (.Call (.Attribute (.Name x p) "__init__" apos) (e::es) [] pos) (UD X t):=by
 intro pins s σ H Q I h;refine methodCall_KW (pl:=pl) (mw I hg hm ?_ i5) ht;refine method_cls I.bq b.ga (cls_value I.bq b.rd b.fi rfl ?_);refine ahJ (aA (ha pos pins { s with toks:=s.toks+1 } σ H _ (I.tok _) h) fun us s1 ⟨vs,H1,I1,r1,q1⟩=>?_) he cS;obtain⟨a,C,dx,y,i,rfl,ea,c,qi,q⟩:=q1;obtain⟨u1,u2,rfl,r2,r3⟩:=r1.two;cases r2
 exact SG c qi I1 ea q
end
section
variable{X:Cx}{o value e:Expr}{f:Str}{pos pos':Pos}{ta tv:TE}
def Yy (X:Cx) (ta tv:TE) (f:Str):TS:=fun D σ H=>tv σ H fun y H1=>ta σ H1 fun x H2=>∃a C,x = .ref a/\H2 a=some (cf C none a)/\eI X.K C/\findIn X.K (.ref C) f=some none /\
 ∀d,H2 d=none->d≠a->D.nx σ (upd (upd H2 d (d7 d [(f,y)])) a (cf C (some d) a))
theorem Le (ha:PE X o ta) (hv:PE X value tv) (hs:swapsWith value (some (.Attribute o f pos')) pos.line X.env=pure false:=by rfl):PS X (.Assign [.Attribute o f pos'] value pos) (Yy X ta tv f):=by
 intro pins s σ H D I h;refine ahT (aA (hv pins s σ H _ I h) fun u s1 ⟨y,H1,I1,ry,q⟩=>aA (ha pins s1 σ H1 _ I1 q) fun ov s2 ⟨x,H2,I2,rx,a,C,ex,ea,c,n,q2⟩=>?_) hs;subst ex;obtain rfl:ov=Value.ref a:=rx;exact TJ I2 ea c n ry fun d s3 h1 h2 I3=>⟨σ,_,I3,q2 d h1 h2⟩
def XG (X:Cx) (ta tv:TE) (f:Str):TS:=fun D σ H=>tv σ H fun y H1=>ta σ H1 fun x H2=>∃a C d fs,x = .ref a/\H2 a=some (cf C (some d) a)/\H2 d=some (d7 d fs)/\eI X.K C/\findIn X.K (.ref C) f=some none/\fs.length < 100 /\
 D.nx σ (upd H2 d (d7 d (iG f y fs)))
theorem Ko (ha:PE X o ta) (hv:PE X value tv) (hs:swapsWith value (some (.Attribute o f pos')) pos.line X.env=pure false:=by rfl):PS X (.Assign [.Attribute o f pos'] value pos) (XG X ta tv f):=by
 intro pins s σ H D I h;refine ahT (aA (hv pins s σ H _ I h) fun u s1 ⟨y,H1,I1,ry,q⟩=>aA (ha pins s1 σ H1 _ I1 q) fun ov s2 ⟨x,H2,I2,rx,a,C,d,fs,ex,ea,ed,c,n,bw,q2⟩=>?_) hs;subst ex;obtain rfl:ov=Value.ref a:=rx;exact S' I2 ea ed c n ry bw fun s3 I3=>⟨σ,_,I3,q2⟩
def ZY (K:Frag):List V->Hp->VK->Prop:=fun xs H Q=>∃x c t cv b,xs = [x,c]/\RelV c cv/\(jT K H x t \/ ∃a C dx,x = .ref a/\t = .ref C/\H a=some (cf C dx a)/\eI K C/\(∀d,dx=some d -> ∃fs,H d=some (d7 d fs)))/\kitOne K t cv=some b/\Q (.bl b) H
theorem mj:dY X (.builtin "isinstance") (fun xs H Q=>(∃x,(∃C,xs = [x,.ref C])\/(∃T,xs = [x,.ty T]))/\ZY X.K xs H Q):=by
 intro pins s σ H xs us Q I r h;obtain⟨hx,x,c,t,cv,b,rfl,rc,ty,e,q⟩:=h;obtain⟨u,w',rfl,ru,gH⟩:=r.two;have E7:w'=cv:=by
  obtain⟨x',⟨C,z⟩|⟨T,z⟩⟩:=hx
  ·cases z;cases rc;cases gH;rfl
  ·cases z;cases rc;cases gH;rfl
 subst E7;rcases ty with ty|⟨a,C,dx,rfl,rfl,ea,c,hd⟩
 ·exact Uy I ru ty e fun tk=>⟨.bl b,H,I.tok _,rfl,q⟩
 ·cases ru
  obtain⟨t,at_⟩:=I.excAt ea;cases dx with
  |none =>
   have J:InstAt s.heap a _ C none:=⟨at_,rfl,rfl,True.intro⟩;exact kia_one (zu c) I.bq J e (fun z=>nomatch z) fun tk=>⟨.bl b,H,I.tok _,rfl,q⟩
  |some d =>
   obtain⟨fs,ed⟩:=hd d rfl;obtain⟨_,mA,n,_⟩:=I.v9 ed;obtain⟨od,iu,_⟩:=sI n;have J:InstAt s.heap a _ C (some od):=⟨at_,rfl,rfl,iu⟩;exact kia_one (zu c) I.bq J e (fun z=>nomatch z) fun tk=>⟨.bl b,H,I.tok _,rfl,q⟩
end
def xR (K:Frag) (l:Addr):It:=
 ⟨fun i H=>∃xs x,ak K H l xs/\xs[i]? = some x,fun i H x H'=>∃t v,H t=none/\x = .ref t/\(∀xs,ak K H l xs->xs[i]? = some v)/\H'=upd H t (.tup [.int i,v]),fun i H=>∃xs,ak K H l xs/\xs.length<=i⟩
theorem UE {P:Program}{w:World}{K:Frag}{elts:List Expr}{n1:Nat}{tp:Pos} (l e it:Addr) (bx:e≠it) :
  Turn P w K (.Tuple elts n1 tp) (xR K l) [e,it] e (fun i h=>(∃old,IsEnum h e it i old)/\h.IsListIter it l i) where
 mem:=by simp
 obj:=fun i h st b hb=>by
  obtain⟨⟨old,h1⟩,h2⟩:=st;rcases a9.mp hb with z|z
  ·subst z;exact⟨_,h1,fun v q=>by cases q⟩
  ·have z':b=it:=by simpa using z
   subst z';obtain⟨o,q,_,d⟩:=h2;exact⟨o,q,fun v z=>by rw[d]at z;cases z⟩
 keep:=fun i h h' st k=>by
  obtain⟨⟨old,h1⟩,h2⟩:=st;exact⟨⟨old,k e (by simp) _ h1⟩,h2.at fun o q=>k it (by simp) o q⟩
 item:=by
  intro X hP hw hK hc i pins s σ H E I hf st hg;subst hP hw hK;obtain⟨xs,x,hq,hx⟩:=hg;obtain⟨its,rv,p,hz⟩:=I.list hq;obtain⟨u,hu,ru⟩:=rv.get hx;obtain⟨⟨old,h1⟩,h2⟩:=st;have fe:=hf e (by simp)
  have fi:=hf it (by simp)
  refine wpAny_pyNext_enum_item h1 h2 p.isList (x:=u) (by simpa using hu) bx fun h' e1 i1 t1 z1 k1=>⟨_,rfl,?_⟩
  refine wpAny_letOwnedTupleGo_enum (s:={ s with heap:=h',toks:=s.toks+1 }) e1 fun iw e2 sb=>?_;have eS:e≠s.heap.objs.size:=bj (aR h1);have k2:∀b o,b≠e->b≠it->s.heap.get? b=some o->iw.get? b=some o:=fun b o n1 n2 q=>(sb.2 b n1).trans (k1 b o n1 n2 q);have t2:iw.get? s.heap.objs.size=some { cls:= .type "tuple",data:= .seq #[.int i s.toks,u] }:=(sb.2 _ (aQ eS)).trans t1;have hn:H s.heap.objs.size=none:=I.ar.fresh (aO _);have lt:∀b o,s.heap.get? b=some o->b≠s.heap.objs.size:=fun b o q=>bj (aR q);have i3:∀b o,H b=some o->b≠e/\b≠it:=fun b o q=>⟨(fun z=>by rw[z,fe.1]at q;cases q),(fun z=>by rw[z,fi.1]at q;cases q)⟩
  have gu:∀b,b ∉ [e,it]->b≠e/\b≠it:=fun b hb=>⟨fun z=>hb (by simp[z]),fun z=>hb (by simp[z])⟩
  have J:Inv X pins σ (upd H s.heap.objs.size (.tup [.int i,x])) { s with heap:=iw,toks:=s.toks+1 }:=by
   refine I.step (g':=s.gens) (d':=s.drawn) (t':=s.toks+1) (ch:= [e,it]) (fun b hb=>?_) (fun b o _ _ hc q _=>k2 b o (gu b hc).1 (gu b hc).2 q) (fun b o _ _ hc q _=>⟨o.slots,k2 b o (gu b hc).1 (gu b hc).2 q⟩)
    (fun b o _ q n=>by rw[ah (lt b o q)];exact n) (fun b o hc q=>⟨o,k2 b o (gu b hc).1 (gu b hc).2 q⟩) (fun b ys q=>by rw[ah (aq q hn)];exact q) (fun b o v q=>by rw[ah (aq q hn)];exact q)
    (fun b ps q=>⟨#[],by rw[ah (aq q hn),q];simp⟩) (fun m hm=>?_) (fun b o q=>?_) I.bare
   ·rcases a9.mp hb with z|z
    ·subst z;exact⟨fe.2.2.2.1,fe.2.1,fe.2.2.2.2.1,fe.2.2.2.2.2⟩
    ·have z':b=it:=by simpa using z
     subst z';exact⟨fi.2.2.2.1,fi.2.1,fi.2.2.2.2.1,fi.2.2.2.2.2⟩
   ·obtain⟨o,es,ep,ho,r⟩:=hm
    exact⟨o,es,ep,k2 _ o (aQ fe.2.1) (aQ fi.2.1) ho,r⟩
   ·by_cases hb:b=s.heap.objs.size
    ·subst hb
     rw[ag]at q;cases q;exact⟨by rw[aE];show 2<=_;decide,[.int i s.toks,u],.cons ⟨_,rfl⟩ (.cons ru .nil),_,t2,rfl,_,rfl,rfl⟩
    ·rw[ah hb]at q
     refine(I.ar b o q).ie (fun c v hc z=>?_) (fun c z=>by rw[ah (aq z hn)];exact z) fun c ys z=>by rw[ah (aq z hn)];exact z
     rcases hc with hc|hc
     ·subst hc;exact k2 _ v (i3 _ _ q).1 (i3 _ _ q).2 z
     ·exact k2 c v (i3 _ _ hc).1 (i3 _ _ hc).2 z
  refine⟨.ref s.heap.objs.size,_,J,rfl,⟨s.heap.objs.size,x,hn,rfl,fun ys hy=>by rw[I.zq hy hq];exact hx,rfl⟩,⟨⟨u,e2⟩,?_⟩,fun b hb=>?_⟩
  ·exact i1.extBut sb.extBut (aQ bx)
  ·have:b≠s.heap.objs.size:=by
    rcases a9.mp hb with z|z
    ·rw[z];exact eS
    ·have z':b=it:=by simpa using z
     obtain⟨o,q,_⟩:=h2;rw[z'];exact lt _ _ q
   rw[ah this];exact(hf b hb).1
 done:=by
  intro X hP hw hK hc i pins s σ H E I hf st hg;subst hP hw hK;obtain⟨xs,hq,hx⟩:=hg;obtain⟨its,rv,p,hz⟩:=I.list hq;obtain⟨⟨old,h1⟩,h2⟩:=st;have fi:=hf it (by simp)
  have hl:=rv.length;exact wpAny_pyNext_enum_end (I.ok.hd hc) h1 h2 p.isList (by simp;omega) fun h' eb=>⟨rfl,I.turned (t':=s.toks) (fun b o hb q=>eb b o hb q) fi.1 fi.2.1 fi.2.2.2.1 fi.2.2.2.2.1 fi.2.2.2.2.2⟩
 self:=fun _ _ _ _ _ st h=>let ⟨⟨_,h1⟩,_⟩:=st;wpAny_pyIter_enum h1 h
section
variable{X:Cx}
def Yz (K:Frag) (ta:TA):TI:=fun σ H R=>ta σ H fun vs H1=>∃a,vs = [.ref a]/\(∃xs,ak K H1 a xs)/\R (xR K a) H1
theorem Lf {a:Expr}{ta:TA}{p pos tp:Pos}{elts:List Expr}{n1:Nat} (hg:Gl X "enumerate") (hm:X.mg "enumerate" = none) (ha:PA X [a] ta) (hs:starEach [a] X.env = [(false,eval a X.env)]:=by rfl) :
  PI X (.Tuple elts n1 tp) (.Call (.Name "enumerate" p) [a] [] pos) (Yz X.K ta):=by
 intro pins s σ H R I h;refine Call_ (oZ I hg hm (show bootBuiltins "enumerate" = some (.type "enumerate") by decide +kernel) (yM (aA (ha pos pins s σ H _ I h) fun us s1 ⟨vs,H1,I1,r1,q1⟩=>?_) hs rfl))
 obtain⟨l,e,⟨xs,hq⟩,q⟩:=q1;subst e;obtain⟨u,rfl,ru⟩:=r1.one;cases ru
 obtain⟨its,rv,pl,hz⟩:=I1.list hq;refine call_enumerate_list pl.isList fun h' e1 i1 z1 k1=>?_;have I2:Inv X pins σ H1 { s1 with heap:=h' }:=I1.kept (t':=s1.toks) k1;refine wpAny_pyIter_enum (s:={ s1 with heap:=h' }) e1 ?_;refine⟨s1.heap.objs.size+1,[s1.heap.objs.size+1,s1.heap.objs.size],_,_,H1,rfl,I2,UE l (s1.heap.objs.size+1) s1.heap.objs.size (Nat.succ_ne_self _),⟨⟨.none,e1⟩,i1⟩,fun b hb=>?_,q⟩;rcases a9.mp hb with z|z
 ·subst z;exact I1.kq (oN _) (I1.ar.fresh (oN _))
 ·have z':b=s1.heap.objs.size:=by simpa using z
  subst z';exact I1.kq (aO _) (I1.ar.fresh (aO _))
theorem B':∀ {ys:List Str}{us:List Value},Vals (ys.map V.str) us->StrsAre us ys:=by
 intro ys
 induction ys with
 |nil=>intro us r;cases r;exact .nil
 |cons y ys ih =>
  intro us r;cases r with
  |cons q qs =>
   obtain⟨t,rfl⟩:=q;exact .cons _ _ (ih qs)
def rJoin (K:Frag):V->List V->Hp->VK->Prop:=fun x vs H Q=>∃ (z:Str) (p:Addr) (ys:List Str),x = .str z/\vs = [.ref p]/\(ak K H p (ys.map V.str)\/aG K H p (ys.map V.str))/\(ys.map (·.length)).sum+ys.length * z.length<=1000000/\Q (.str (Txt.join z ys)) H
theorem Wr:NV X "str.join" (rJoin X.K):=by
 intro pins s σ H x xs v us Q I rx rv h;obtain⟨z,p,ys,rfl,rfl,hp,hz,q⟩:=h;obtain⟨t,rfl⟩:=rx;obtain⟨u,rfl,ru⟩:=rv.one;cases ru
 rcases hp with hp|hp
 ·obtain⟨its,r,pl,_⟩:=I.list hp
  exact join_list pl.isList (by simpa using B' r) (by omega) fun t' k=>⟨.str _,H,I.tok _,⟨_,rfl⟩,q⟩
 ·obtain⟨its,r,pl,_⟩:=I.tuple hp
  exact join_tuple pl (by simpa using B' r) (by omega) fun t' k=>⟨.str _,H,I.tok _,⟨_,rfl⟩,q⟩
def ZZ:V->Option Int->Option Int->Hp->VK->Prop:=fun x lo hi H Q=>∃z:Str,x = .str z/\z.length<=1000000/\Q (.str (Txt.slice z lo hi)) H
theorem XH:As X ZZ:=by
 intro pins s σ H x v vl vu lo hi sl Q I rx hs pl pu h;obtain⟨z,rfl,hz,q⟩:=h;obtain⟨t,rfl⟩:=rx;have fz:(Txt.slice z lo hi).length<=sizeLine:=dU (Txt.slice_le z _ _) (by rw[aE];omega)
 refine⟨"str",_,PySem.F.slot_str_getitem.lookup,typeIs_str _ _ _,?_⟩;cases pl with
 |none =>
  cases pu with
  |none=>exact HX (l:=none) (u:=none) (st:=none) hs rfl (HY ⟨fz,fun t' k=>⟨.str _,H,I.tok _,⟨_,rfl⟩,q⟩⟩)
  |int j tj=>exact HX (l:=none) (u:=some (j,tj)) (st:=none) hs rfl (HY ⟨fz,fun t' k=>⟨.str _,H,I.tok _,⟨_,rfl⟩,q⟩⟩)
 |int i ti =>
  cases pu with
  |none=>exact HX (l:=some (i,ti)) (u:=none) (st:=none) hs rfl (HY ⟨fz,fun t' k=>⟨.str _,H,I.tok _,⟨_,rfl⟩,q⟩⟩)
  |int j tj=>exact HX (l:=some (i,ti)) (u:=some (j,tj)) (st:=none) hs rfl (HY ⟨fz,fun t' k=>⟨.str _,H,I.tok _,⟨_,rfl⟩,q⟩⟩)
end
def CW (Pv:Nat->List V->St->Hp->Prop) (n i m:Nat) (ys:List V) (τ:St) (H:Hp):Prop:=m=n - i/\i<=n/\Pv i ys τ H
theorem cw_next {Pv:Nat->List V->St->Hp->Prop}{n i:Nat}{ys:List V}{τ:St}{H:Hp} (h:i < n) (p:Pv (i+1) ys τ H):∃m',m' < n - i/\CW Pv n (i+1) m' ys τ H:=⟨n - (i+1),by omega,rfl,h,p⟩
theorem Jk {lo:Int}{n:Nat}{g:TG}{ti:TT}{te:TE}{iJ:St}{Q:VK}{p:Addr}{H1:Hp} (Pv:Nat->List V->St->Hp->Prop) (h0:Pv 0 [] iJ (upd H1 p (.lst []))) (hl:∀i ys τ H,Pv i ys τ H->H p=some (.lst ys))
  (hs:∀i ys τ H,i < n->Pv i ys τ H->g (.int (lo+i)) τ H fun dG H4=>ti dG H4 fun b H5=>if b=true then te dG H5 fun y H6=>H6 p=some (.lst ys)/\ys.length < sizeLine /\ ∃m',m' < n - i/\CW Pv n (i+1) m' (ys ++ [y]) dG (upd H6 p (.lst (ys ++ [y]))) else ∃m',m' < n - i/\CW Pv n (i+1) m' ys dG H5)
  (hd:∀ys τ H,Pv n ys τ H->Q (.ref p) H):lx (rF lo n) g ti te iJ Q p H1:=by
 refine⟨CW Pv n,⟨n,by simp,bG _,h0⟩,?_⟩
 rintro i m ys τ H ⟨rfl,hi,pv⟩;refine⟨hl i ys τ H pv,?_⟩
 by_cases aP:i < n
 ·refine .inr ⟨aP,fun x H3 y3=>?_⟩
  obtain⟨e3,ex⟩:=y3;subst e3 ex;exact hs i ys τ _ aP pv
 ·have e:i=n:=by omega
  subst e;exact .inl ⟨aO _,hd ys τ H pv⟩
theorem gR {K:Frag}{a:Addr}{xs:List V}{g:TG}{ti:TT}{te:TE}{iJ:St}{Q:VK}{p:Addr}{H1:Hp} (Pv:Nat->List V->St->Hp->Prop) (h0:Pv 0 [] iJ (upd H1 p (.lst []))) (hl:∀i ys τ H,Pv i ys τ H->H p=some (.lst ys)/\ak K H a xs)
  (hs:∀i x ys τ H,xs[i]? = some x->Pv i ys τ H->g x τ H fun dG H4=>ti dG H4 fun b H5=>if b=true then te dG H5 fun y H6=>H6 p=some (.lst ys)/\ys.length < sizeLine /\ ∃m',m' < xs.length - i/\CW Pv xs.length (i+1) m' (ys ++ [y]) dG (upd H6 p (.lst (ys ++ [y]))) else ∃m',m' < xs.length - i/\CW Pv xs.length (i+1) m' ys dG H5)
  (hd:∀ys τ H,Pv xs.length ys τ H->Q (.ref p) H):lx (rE K a) g ti te iJ Q p H1:=by
 refine⟨CW Pv xs.length,⟨xs.length,by simp,bG _,h0⟩,?_⟩
 rintro i m ys τ H ⟨rfl,hi,pv⟩;obtain⟨hp,hq⟩:=hl i ys τ H pv;refine⟨hp,?_⟩
 by_cases aP:i < xs.length
 ·refine .inr ⟨⟨xs,xs[i],hq,by simp[aP]⟩,fun x H3 y3=>?_⟩
  obtain⟨e3,ex⟩:=y3;subst e3;exact hs i x ys τ _ (ex xs hq) pv
 ·have e:i=xs.length:=by omega
  subst e;exact .inl ⟨⟨xs,hq,aO _⟩,hd ys τ H pv⟩
theorem jK {K:Frag}{a:Addr}{xs:List V}{g:TG}{ti:TT}{te:TE}{iJ:St}{Q:VK}{p:Addr}{H1:Hp} (Pv:Nat->List V->St->Hp->Prop) (h0:Pv 0 [] iJ (upd H1 p (.lst []))) (hl:∀i ys τ H,Pv i ys τ H->H p=some (.lst ys)/\aG K H a xs)
  (hs:∀i x ys τ H,xs[i]? = some x->Pv i ys τ H->g x τ H fun dG H4=>ti dG H4 fun b H5=>if b=true then te dG H5 fun y H6=>H6 p=some (.lst ys)/\ys.length < sizeLine /\ ∃m',m' < xs.length - i/\CW Pv xs.length (i+1) m' (ys ++ [y]) dG (upd H6 p (.lst (ys ++ [y]))) else ∃m',m' < xs.length - i/\CW Pv xs.length (i+1) m' ys dG H5)
  (hd:∀ys τ H,Pv xs.length ys τ H->Q (.ref p) H):lx (xA K a) g ti te iJ Q p H1:=by
 refine⟨CW Pv xs.length,⟨xs.length,by simp,bG _,h0⟩,?_⟩
 rintro i m ys τ H ⟨rfl,hi,pv⟩;obtain⟨hp,hq⟩:=hl i ys τ H pv;refine⟨hp,?_⟩
 by_cases aP:i < xs.length
 ·refine .inr ⟨⟨xs,xs[i],hq,by simp[aP]⟩,fun x H3 y3=>?_⟩
  obtain⟨e3,ex⟩:=y3;subst e3;exact hs i x ys τ _ (ex xs hq) pv
 ·have e:i=xs.length:=by omega
  subst e;exact .inl ⟨⟨xs,hq,aO _⟩,hd ys τ H pv⟩
def MO (N N':List Str) (cw:List (Option Nat)) (sc:Scope):Bool:=(List.range cw.length).all fun j=>match cw[j]? with
 |some (some i)=>(match N[i]? with|some x=>N'[j]? == some x && sc.names.lookup x==some .free|none=>false)
 |_=>true
theorem cU {N N':List Str}{cw:List (Option Nat)}{sc:Scope} (h:MO N N' cw sc=true) (j i:Nat) (e:cw[j]? = some (some i)):∃x,N[i]? = some x/\N'[j]? = some x/\sc.names.lookup x=some .free:=by
 have hj:j < cw.length:=(bU.mp e).1;have z:=oQ.mp h j (nC.mpr hj);rw[e]at z
 dsimp only at z
 split at z
 ·rename_i x q
  obtain⟨z1,z2⟩:=jI.mp z;exact⟨x,q,cT.mp z1,cT.mp z2⟩
 ·cases z
structure Nm (x:Str):Prop where
 lo:1<=x.length
 hi:x.length<=8
 az:∀c∈x.cps.toList,97<=c/\c<=122
def sign (c:Nat):Str:=⟨#[c]⟩
theorem Jl:∀ (cs:List Nat) (acc:Array Nat),(cs.map sign).foldl (fun acc p=>acc++("" : Str).cps++p.cps) acc=acc++cs.toArray
 |[],acc=>by simp
 |c::cs,acc=>by
  rw[cA,List.foldl_cons,Jl cs];have e:("" : Str).cps = #[]:=rfl;rw[e]
  apply HZ.mp
  simp[sign]
theorem TK (cs:List Nat):Txt.join ("" : Str) (cs.map sign)=⟨cs.toArray⟩:=by
 unfold Txt.join Builtin.Str.glued;cases cs with
 |nil=>rfl
 |cons c cs =>
  rw[cA];show(⟨(cs.map sign).foldl _ (sign c).cps⟩:Str)=_;rw[Jl]
  apply eO Str.mk
  apply HZ.mp
  simp[sign]
theorem TL {z:Str}{c:Nat} (h:c∈(Txt.slice z none (some 6)).cps.toList):c∈z.cps.toList:=by
 unfold Txt.slice at h;split at h
 ·exact h
 ·simp only[qp]at h
  obtain⟨i,_,e⟩:=h;obtain⟨_,e2⟩:=yR.mp e;rw[<-e2];simp
theorem Jm (z:Str):(Txt.slice z none (some 6)).length<=6:=by
 have hi:(Builtin.Str.strSliceIndices none (some 6) 1 z.length).length<=6:=by
  unfold Builtin.Str.strSliceIndices sliceRange;simp only[show(1:Int) > 0 by decide,oM,ax,Q7]
  split <;> (try split) <;> omega
 unfold Txt.slice;split
 ·rename_i h
  have e:(Builtin.Str.strSliceIndices none (some 6) 1 z.length).length=z.length:=by simpa using h
  omega
 ·show(List.filterMap _ _).toArray.size<=6
  rw[cQ];exact dU (Q8 _ _) hi
theorem wu (a b:Str):(a++b).cps=a.cps++b.cps:=rfl
theorem Ws {z:Str}{c:Nat} (hz:∀c∈z.cps.toList,97<=c/\c<=122) (hc:97<=c/\c<=122):Nm (Txt.slice z none (some 6)++sign c++("q" : Str)):=by
 have hq:("q" : Str).cps = #[113]:=by decide +kernel
 have hl:=Jm z;have e:(Txt.slice z none (some 6)++sign c++("q" : Str)).length=(Txt.slice z none (some 6)).length+2:=by
  show(_:Array Nat).size=_;rw[wu,wu,hq];show(_ ++ #[c] ++ #[113]).size=_;rw[Ia,Ia];rfl
 refine⟨by omega,by omega,fun d hd=>?_⟩
 rw[wu,wu,hq]at hd;have xw:d∈(Txt.slice z none (some 6)).cps.toList\/d=c\/d=113:=by
  have:d∈((Txt.slice z none (some 6)).cps ++ #[c] ++ #[113]).toList:=hd;simp at this;rcases this with h|h|h
  ·exact .inl (by simpa using h)
  ·exact .inr (.inl h)
  ·exact .inr (.inr h)
 rcases xw with h|h|h
 ·exact hz d (TL h)
 ·rw[h];exact hc
 ·rw[h];omega
theorem Vs {p:Str}{c d:Nat} (h:p++sign c++("q" : Str)=p++sign d++("q" : Str)):c=d:=by
 have h1:=eO (fun s:Str=>s.cps.toList) h;simp only[wu]at h1;have h2:p.cps.toList++([c]++("q" : Str).cps.toList)=p.cps.toList++([d]++("q" : Str).cps.toList):=by
  simpa [sign,Array.toList_append] using h1
 have h3:=List.append_cancel_left h2
 simpa using h3
theorem zO:∀ {ys found:List Str},ys.Nodup->found.length < ys.length -> ∃y∈ys,y ∉ found
 |[],found,_,h=>by simp at h
 |y::ys,found,nd,h=>by
  obtain⟨n1,n2⟩:=eP.mp nd
  by_cases hy:y∈found
  ·have hl:=Q9 hy
   have hp:=Ib hy;obtain⟨z,hz,hn⟩:=zO (found:=found.erase y) n2 (by rw[hl];rw[d4]at h;omega)
   refine⟨z,bJ _ hz,fun q=>hn ?_⟩;have ne:z≠y:=fun e=>n1 (by rw[<-e];exact hz)
   exact(Ra ne).mpr q
  ·exact⟨y,aZ,hy⟩
section
variable{X:Cx}
theorem Lg (K:Frag) (h:X.K=K):cE X (compareOp .In) (Av K false):=by subst h;exact Ck
theorem Jn (K:Frag) (h:X.K=K):cE X (compareOp .NotIn) (Av K true):=by subst h;exact zb
theorem Co (K:Frag) (h:X.K=K):uF X (ME K):=by subst h;exact fX
theorem sQ (K:Frag) (h:X.K=K):uF X (MF K):=by subst h;exact mz
theorem Cp {tg l:Expr}{tl:TE} (K:Frag) (h:X.K=K) (hl:PE X l tl):PI X tg l (Ma K tl):=by subst h;exact gC hl
theorem CI {tg l:Expr}{tl:TE} (K:Frag) (h:X.K=K) (hl:PE X l tl):PI X tg l (MA K tl):=by subst h;exact jN hl
end
theorem nM (x:Str) (ys:List Str):Au (.str x) (ys.map V.str)=decide (x∈ys):=by
 unfold Au;rw[BJ]
 induction ys with
 |nil=>simp
 |cons y ys ih =>
  rw[se,ih];show((y==x) || decide (x∈ys))=decide (x∈y::ys)
  by_cases h:y=x
  ·subst h;simp
  ·have h':(y==x)=false:=nB.mpr h
   rw[h',Rb];have:x∈y::ys ↔ x∈ys:=by simp[aQ h]
   simp[this]
theorem mf (ys:List Str):(ys.map V.str).all mH=true:=by
 rw[oQ];intro v hv;obtain⟨y,_,rfl⟩:=aS.mp hv
 rfl
def iV (H:Hp) (a:Addr):Hp:=fun b=>if b=a then none else H b
theorem lg {H:Hp}{a b:Addr} (n:b≠a):iV H a b=H b:=by unfold iV;rw[au n]
theorem Jo {H:Hp}{a b:Addr}{o:HO} (e:iV H a b=some o):b≠a/\H b=some o:=by
 unfold iV at e;split at e
 ·cases e
 next n=>exact⟨n,e⟩
theorem Jp {H:Hp}{a b:Addr} (e:H b=none):iV H a b=none:=by
 unfold iV;split
 ·rfl
 ·exact e
section
variable{X:Cx}{pins:List (Addr×Obj)}{σ:St}{H H1:Hp}{s s1:Shared}{a C:Addr}{dx:Option Addr}
theorem Inv.Lh (I:Inv X pins σ H s) (e:H a=some (cf C dx a)) (hd:∀d,dx=some d -> ∃fs,H d=some (d7 d fs)):∃ox od t,InstAt s.heap a ox C od/\ox={ cls:= .ref C,dict:=dx,data:= .fields #[.ref t,.none,.none,.none,.bool false,.none] }:=by
 obtain⟨t,at_⟩:=I.excAt e;cases dx with
 |none=>exact⟨_,none,t,⟨at_,rfl,rfl,True.intro⟩,rfl⟩
 |some d =>
  obtain⟨fs,ed⟩:=hd d rfl;obtain⟨_,mA,n,r,_⟩:=I.v9 ed;obtain⟨od,iu,_⟩:=sI n;exact⟨_,some od,t,⟨at_,rfl,rfl,iu⟩,rfl⟩
theorem Inv.hidden (I:Inv X pins σ H s) (hx:X.ex = []) (hs:X.stack=X.env::X.outer) (hf:X.env.frame=some X.env.locals) (ha:H a=some (cf C dx a)) (h0:X.iW a=none) {h':Heap}
  (k:(hideAll s.heap (a::cH X.stack)).StaysIn h') (up:s.heap.UpToSlots h'):Un X.fs [] X.iW (iV H a) X.cC.heap h'/\cD X.prog X.w (iV H a) h':=by
 have ub:Un X.fs [] X.iW H X.cC.heap s.heap:=by have:=I.base;rw[hx]at this;exact this
 have xj:∀b,b∈cH X.stack->b=X.env.locals\/b∈X.fs:=fun b hb=>by
  have:=I.wm b hb;rcases a9.mp this with z|z
  ·exact .inl z
  ·exact .inr z
 have nA:∀ {b:Addr},H b=none->b≠a:=fun e z=>by subst z;rw[ha]at e;cases e
 have get:∀b o,s.heap.get? b=some o->b≠a->b ∉ cH X.stack->h'.get? b=some o:=fun b o e n m=>k b o (hideAll_get _ e fun z=>by
  rcases a9.mp z with z|z
  ·exact n z
  ·exact m z)
 have xk:∀b o,X.cC.heap.get? b=some o->b≠X.env.locals:=fun b o e z=>by
  have h1:=aR e;have h2:=I.ok.above;subst z;exact absurd h1 (BK.mpr h2)
 have wO:∀b o,b∈X.fs->s.heap.get? b=some o -> ∃sl,h'.get? b=some { o with slots:=sl }:=fun b o m e=>by
  obtain⟨_,o',e',nf⟩:=(I.fZ).mem m;rw[e]at e';cases e'
  exact up b o e nf
 refine⟨⟨fun b o e n m _=>?_,fun b o e n m _=>?_,fun b o e n _=>Jp (ub.free b o e n (by simp)),fun b o e _=>?_,fun b xs e=>?_,fun b o u e=>?_,fun b ps e=>?_⟩,fun b o e=>?_⟩
 ·have e1:=ub.keep b o e n m (by simp)
  refine get b o e1 (nA (ub.free b o e n (by simp))) fun z=>?_
  rcases xj b z with z|z
  ·exact xk b o e z
  ·exact m z
 ·obtain⟨sl,e1⟩:=ub.slot b o e n m (by simp)
  obtain⟨xy,e2⟩:=wO b _ m e1;exact⟨xy,e2⟩
 ·obtain⟨o',e1⟩:=ub.there b o e (by simp)
  by_cases m:b∈X.fs
  ·obtain⟨sl,e2⟩:=wO b _ m e1
   exact⟨_,e2⟩
  ·refine⟨o',get b o' e1 (fun z=>?_) fun z=>?_⟩
   ·subst z
    have:=ub.free b o e h0 (by simp)
    rw[ha]at this;cases this
   ·rcases xj b z with z|z
    ·exact xk b o e z
    ·exact m z
 ·have e1:=ub.jR b xs e
  rw[lg (bY e1 ha (by intro z;cases z))];exact e1
 ·have e1:=ub.jt b o u e
  rw[lg (bY e1 ha (by intro z;cases z))];exact e1
 ·obtain⟨mo,e1⟩:=ub.jS b ps e
  exact⟨mo,by rw[lg (bY e1 ha (by intro z;cases z))];exact e1⟩
 ·obtain⟨n,e1⟩:=Jo e
  have qY:∀ {c:Addr}{u:HO},H c=some u->c ∉ cH X.stack:=fun q m=>by
   have:=I.zD _ m;rw[q]at this;cases this
  refine(I.ar b o e1).ie (fun c u hc q=>?_) (fun c q=>?_) fun c xs q=>?_
  ·rcases hc with rfl|q1
   ·exact get _ u q n (qY e1)
   ·exact get c u q (bY q1 ha (by intro z;cases z)) (qY q1)
  ·rw[lg (bY q ha (by intro z;cases z))];exact q
  ·rw[lg (bY q ha (by intro z;cases z))];exact q
end
def Cx.fY (X:Cx) (a:Addr):Cx:={ X with A:=X.A.mark (some (.ref a)),calm:=false,xe:=fun _ _=>False }
section
variable{X:Cx}{pins:List (Addr×Obj)}{σ:St}{H:Hp}{s:Shared}{a C:Addr}
theorem Inv.fY (I:Inv X pins σ H s) (a:Addr):Inv (X.fY a) pins σ H s:=
 ⟨⟨I.ok.mod,I.ok.kind,I.ok.glob,I.ok.blt,I.ok.above,I.ok.inj,I.ok.has,I.ok.oi,(fun z=>Bool.noConfusion (show false=true from z)),I.ok.frames,I.ok.lD,I.ok.m3,I.ok.bs,I.ok.jV,I.ok.n5,I.ok.mX,I.ok.fZ,I.ok.kr⟩,I.os,I.bare,I.base,I.loc,I.cell,I.free,I.gT,I.pin,I.ar,I.len⟩
theorem Inv.uncaught {Y:Cx} (ok:X.Ok) (I:Inv (X.fY a) pins σ H s):Inv X pins σ H s:=
 ⟨ok,I.os,I.bare,I.base,I.loc,I.cell,I.free,I.gT,I.pin,I.ar,I.len⟩
theorem SP.uncaught {D:Ends}{f:Flow} (ok:X.Ok) (h:SP (X.fY a) pins D f s):SP X pins D f s:=by
 cases f with
 |next=>obtain⟨aD,H',I,q⟩:=h;exact⟨aD,H',I.uncaught (Y:=X) ok,q⟩
 |brk=>obtain⟨aD,H',I,q⟩:=h;exact⟨aD,H',I.uncaught (Y:=X) ok,q⟩
 |cont=>obtain⟨aD,H',I,q⟩:=h;exact⟨aD,H',I.uncaught (Y:=X) ok,q⟩
 |ret u=>obtain⟨v,aD,H',I,r,q⟩:=h;exact⟨v,aD,H',I.uncaught (Y:=X) ok,r,q⟩
end
section
variable{P:Program}{w:World}{A:Around}{R:Result->Shared->Prop}
theorem Vt {it l:Addr}{its:Array Value}{g:Heap} (tr:Nat->Bool) (hh:A.in1.handled=none) (bx:l≠it) (hl:g.IsList l its)
  (ht:∀i v,its[i]? = some v -> ∃a ws,v = .ref a/\a≠it/\IsTup g a ws/\ws.size<=sizeLine/\tr i = !ws.isEmpty):∀ (k i:Nat) (s:Shared),its.size - i=k->i<=its.size->(∀b o,b≠it->g.get? b=some o->s.heap.get? b=some o)->s.heap.IsListIter it l i ->
  (∀h' tk,(∀b o,b≠it->g.get? b=some o->h'.get? b=some o)->R (.ok (.ret (.bool (((List.range its.size).drop i).any tr)))) { s with heap:=h',toks:=tk }) ->
  codeAny (model P w) A (.builtin "any.loop" ⟨[.ref it],[]⟩) R s:=by
 intro k
 induction k with
 |zero =>
  intro i s hk hi kp hit hR;obtain rfl:i=its.size:=by omega
  refine gQ F.entry_any_loop (?_:wpAny _ _ _ _ _ _);rw[show A.under (.builtin "any.loop" ⟨[.ref it],[]⟩)=A.in1 from je Ic _];show wpAny _ _ (pyNext (.ref it) >>= _) _ _ s;have xS:s.heap.IsList l its:=hl.at fun o e=>kp l o bx e;refine ae (wpAny_pyNext_list_end hh hit xS (by simp) fun h' ex=>ae (lU (aj ?_)))
  have:=hR h' s.toks fun b o n e=>ex b o n (kp b o n e);rw[Rc (by simp)]at this
  exact this
 |succ k ih =>
  intro i s hk hi kp hit hR;have aP:i < its.size:=by omega
  have hd:(List.range its.size).drop i=i::(List.range its.size).drop (i+1):=by rw[yS (by simpa using aP),List.getElem_range]
  refine gQ F.entry_any_loop (?_:wpAny _ _ _ _ _ _);rw[show A.under (.builtin "any.loop" ⟨[.ref it],[]⟩)=A.in1 from je Ic _];show wpAny _ _ (pyNext (.ref it) >>= _) _ _ s;have xS:s.heap.IsList l its:=hl.at fun o e=>kp l o bx e;have hx:its[i]? = some its[i]:=by simp[aP]
  obtain⟨a,ws,ea,na,Z0,hz,htr⟩:=ht i _ hx;refine ae (wpAny_pyNext_list_item hit xS hx fun h' Ac sb=>?_);have uL:∀b o,b≠it->g.get? b=some o->h'.get? b=some o:=fun b o n e=>sb.extBut b o n (kp b o n e);have YA:IsTup h' a ws:=by
   obtain⟨o,ho,r⟩:=Z0;exact⟨o,uL a o na ho,r⟩
  rw[ea];refine ae (cX (truthy_tuple (s:={ s with heap:=h' }) YA (by rw[aE]at hz;omega) (ae (wpAny_letGo ?_))))
  rw[<-htr];cases hb:tr i with
  |false =>
   refine aj ⟨kc Ic _,ih (i+1) _ (by omega) aP uL Ac fun h2 tk2 k2=>?_⟩
   have:=hR h2 tk2 k2;rw[hd,se,hb,Rb]at this;exact this
  |true =>
   refine ae (lU (aj ?_));have:=hR h' (s.toks+1+1) uL;rw[hd,se,hb,Bool.true_or]at this;exact this
end
section
variable{X:Cx}
theorem UG (hc:X.calm=true):dY X (.builtin "any") (fun xs H Q=>∃ (p:Addr) (ys:List V) (rs:List (List V)),xs = [.ref p]/\ak X.K H p ys/\Paired (fun y r=>∃a,y=V.ref a/\aG X.K H a r) ys rs/\Q (.bl (rs.any fun r=>!r.isEmpty)) H):=by
 intro pins s σ H xs us Q I r h;obtain⟨p,ys,rs,rfl,hq,pr,q⟩:=h;obtain⟨u,rfl,rx⟩:=vals1 r;cases rx
 obtain⟨its,rv,pl,hz⟩:=I.list hq;have hlen:=rv.length;have all:∀i v,its[i]? = some v -> ∃a ws,v = .ref a/\IsTup s.heap a ws/\ws.size<=sizeLine/\(rs.map fun r=>!r.isEmpty).getD i false = !ws.isEmpty:=by
  intro i v e;clear q hq pl hz r
  induction rv generalizing rs i with
  |nil=>simp at e
  |cons r1 rt ih =>
   cases pr with
   |cons p1 pt =>
    cases i with
    |zero =>
     simp at e;subst e;obtain⟨a,rfl,ha⟩:=p1;cases r1
     obtain⟨ws,r2,ht,E8⟩:=I.tuple ha;have dk:=r2.length;exact⟨a,_,rfl,ht,by rw[cQ];omega,by rw[B9 r2];rfl⟩
    |succ i=>exact ih _ pt (by simpa using hlen) i (by simpa using e)
 have hsz:its.toArray.size=rs.length:=by rw[cQ,<-hlen];exact jF pr
 have fin:(List.range its.toArray.size).any (fun i=>(rs.map fun r=>!r.isEmpty).getD i false)=rs.any fun r=>!r.isEmpty:=by
  rw[hsz]
  apply vt.mpr
  simp only[sg,nC]
  constructor
  ·rintro⟨i,hi,e⟩
   refine⟨rs[i],jf hi,?_⟩
   simpa [List.getD,hi] using e
  ·rintro⟨r,hr,e⟩
   obtain⟨i,hi,rfl⟩:=vz hr;exact⟨i,hi,by simpa [List.getD,hi] using e⟩
 refine call_function_tree F.kind_any F.plain_any F.entry_any (F.args_any1 (.ref p)) (?_:wpAny _ _ _ _ _ _);unfold Builtin.«any»;refine ae (m:=oneArg "any" _) (aj (ae (yL pl.isList ?_)));have new:∀b o,s.heap.get? b=some o->b≠s.heap.objs.size:=fun b o e=>bj (aR e);obtain⟨ol,rN,_⟩:=id pl.isList;refine aj ⟨kc Ic _,Vt (g:=s.heap) (fun i=>(rs.map fun r=>!r.isEmpty).getD i false) (I.ok.hd hc) (new p ol rN) pl.isList (fun i v e=>?_) _ 0 _ rfl (bG _) (fun b o n e=>aT _ e) ⟨_,bZ _ rfl,rfl,rfl⟩ fun h' tk kp=>?_⟩
 ·obtain⟨a,ws,ea,ht,E8,e2⟩:=all i v (by simpa using e)
  obtain⟨o,ho,_⟩:=id ht;exact⟨a,ws,ea,new a o ho,ht,E8,e2⟩
 ·rw[List.drop_zero,fin]
  exact⟨.bl _,H,I.kept (t':=tk) fun b o e=>kp b o (new b o e) e,rfl,q⟩
theorem qF (hc:X.calm=true):dY X (.builtin "all") (fun xs H Q=>∃ (p:Addr) (bs:List Bool),xs = [.ref p]/\ak X.K H p (bs.map V.bl)/\Q (.bl (bs.all id)) H):=by
 intro pins s σ H xs us Q I r h;obtain⟨p,bs,rfl,hq,q⟩:=h;obtain⟨u,rfl,rx⟩:=vals1 r;cases rx
 obtain⟨its,rv,pl,hz⟩:=I.list hq;have hlen:=rv.length;have vals:its=bs.map Value.bool:=by
  clear q hq pl hz r hlen
  induction bs generalizing its with
  |nil=>cases rv;rfl
  |cons b bs ih =>
   cases rv with
   |cons r1 rt=>cases r1;rw[ih _ rt];rfl
 have new:∀b o,s.heap.get? b=some o->b≠s.heap.objs.size:=fun b o e=>bj (aR e);obtain⟨ol,rN,_⟩:=id pl.isList;refine call_all_walk (yL pl.isList ?_);refine⟨s.heap.objs.size,_,_,_,_,_,fun i=>bs.getD i true,rfl,Walks.list (A:=X.A.in1) (I.ok.hd hc) s.heap.objs.size p (new p ol rN) its.toArray,⟨⟨_,bZ _ rfl,rfl,rfl⟩,pl.isList.at fun o e=>aT _ e⟩,fun i v s2 Q2 E2 hv pS=>?_,fun h' tk kp=>?_⟩
 ·rw[vals]at hv
  have:bs[i]?.map Value.bool=some v:=by simpa using hv
  obtain⟨b,hb,rfl⟩:=iD.mp this;refine lT ?_;have e:bs.getD i true=b:=by rw[jJ,hb];rfl
  exact e ▸ pS
 ·have fin:(List.range its.toArray.size).all (fun i=>bs.getD i true)=bs.all id:=by
   have hs:its.toArray.size=bs.length:=by rw[vals];simp
   rw[hs]
   apply vt.mpr
   simp only[oQ,nC]
   constructor
   ·intro h b hb
    obtain⟨i,hi,rfl⟩:=vz hb
    simpa [List.getD,hi] using h i hi
   ·intro h i hi
    simpa [List.getD,hi] using h bs[i] (jf hi)
  rw[fin];exact⟨.bl _,H,I.kept (t':=tk) fun b o e=>kp b o (by simpa using new b o e) (aT _ e),rfl,q⟩
def Wt:V->List V->Hp->VK->Prop:=fun x vs H Q=>∃ (l:Addr) (ys:List Str) (y:Str) (j:Nat),x = .ref l/\vs = [.str y]/\H l=some (.lst (ys.map V.str))/\ys[j]? = some y/\(∀m,m < j->ys[m]? ≠ some y)/\Q (.int j) H
theorem CJ:ER X "list.index" Wt:=by
 intro pins s σ H x vs v us Q I rx rv h;obtain⟨l,ys,y,j,rfl,rfl,hH,hj,j3,q⟩:=h;cases rx
 obtain⟨u,rfl,t,rfl⟩:=rv.one;obtain⟨z,its,n,r,hl,e⟩:=I.xg hH;have cg:j < its.length:=by
  have:=(bU.mp hj).1;rw[<-hl,ax];exact this
 have at_:∀m (hm:m < its.length),∃ (w:Str) (t':Tok),ys[m]? = some w/\its[m] = .str w t':=fun m hm=>by
  have i6:m < ys.length:=by rw[<-hl,ax]at hm;exact hm
  obtain⟨u,hu,t',ht⟩:=r.get (i:=m) (x:= .str ys[m]) (by rw[gA,bH i6];rfl)
  rw[bH hm]at hu;exact⟨ys[m],t',bH i6,by rw[gy hu];exact ht⟩
 have fl:(ys.map V.str).all mH=true:=mf ys;refine BC F.slot_list_index ⟨_,e,rfl⟩ F.entry_list_index (F.args_list_index_2 _ _) (SeqAt.list_indexAt l its.toArray n none #[] (.str y t) (gW (.str y)) j (by simpa using cg) ?_ ?_ ?_) ⟨e,?_,?_⟩
 ·rw[aE]at z;have:=hl;omega
 ·obtain⟨w,t',hw,ew⟩:=at_ j cg
  rw[hj]at hw;cases hw;show gW (.str y) (its.toArray[j])=true;rw[ahU,ew,zL (y:= .str y) ⟨t',rfl⟩ rfl];show decide _=true;exact gm rfl
 ·intro m hm hmj
  have i6:m < its.length:=by simpa using hm
  obtain⟨w,t',hw,ew⟩:=at_ m i6;show gW (.str y) (its.toArray[m])=false;rw[ahU,ew,zL (y:= .str w) ⟨t',rfl⟩ rfl];have ne:=j3 m hmj;rw[hw]at ne;show decide _=false;exact jd fun z=>ne (by rw[z])
 ·intro u hu
  exact sP (x:= .str y) ⟨t,rfl⟩ rfl r fl u (by simpa using hu)
 ·exact⟨.int j,H,I.tok _,⟨_,rfl⟩,q⟩
end
section
variable{X:Cx}{e:Expr}{te:TE}{pos p2 p3 p4:Pos}{k:Nat}
def Z1 (K:Frag) (te:TE):TE:=fun σ H Q=>te σ H fun x H2=>∃ (l:Addr) (xs:List V),x = .ref l/\ak K H2 l xs /\ ∀p,H2 p=none->Q (.ref p) (upd H2 p (.lst xs.reverse))
theorem XI (he:PE X e te):PE X (.Subscript e (.Slice none none (some (.UnaryOp .USub (.Constant (.int 1) k p3) p4)) p2) pos) (Z1 X.K te):=by
 intro pins s σ H Q I h;refine Subscript_ (aA (he pins s σ H _ I h) fun v s1 ⟨x,H1,I1,r1,l,xs,ex,hx,q⟩=>?_);subst ex;cases r1
 refine wpAny_Slice ?_;rw[QZ];refine aj (aj ?_);refine aA (ll (wM wq aN) pins s1 σ H1 (fun o H'=>o=some (-1)/\H'=H1) I1 ⟨_,rfl,_,rfl,rfl,rfl⟩) fun vs s4 ⟨o,H4,I4,ps,eo,eH⟩=>?_;subst eo eH;have I5:Inv X pins σ H4 { s4 with heap:=s4.heap.push { cls:= .type "slice",data:= .fields #[.none,.none,vs] } }:=I4.kept (t':=s4.toks) fun b ob z=>aT _ z;obtain⟨its,r,ht,hz⟩:=I5.list hx;have hlen:=r.length;refine tail_any (ops:=_) ht.isList.typeIs Q0.lookup ?_ (by with_unfolding_all rfl)
 refine wpAny_getItem_list_slice ht.isList (Heap.IsSliceOf.new ..) .none .none ps (by decide) ?_ (by rw[cQ];omega)
 rw[krv_pick];refine⟨.ref _,_,I5.laid (t':=s4.toks) (o:= .lst xs.reverse) (fun b ob z=>aT _ z) (aO _) ?_,rfl,q _ (I5.ar.fresh (aO _))⟩;exact⟨by rw[Ie];exact hz,its.reverse,0,r.reverse,bZ _ rfl⟩
end
end L2
namespace L2
open PySem PySem.Spec PyProof.Rows
section
variable{κ:Type} [DecidableEq κ]
def cp (kvs:List (κ×V)) (k:κ):Option V:=(kvs.find? fun kv=>decide (kv.1=k)).map (·.2)
def putK (kvs:List (κ×V)) (k:κ) (v:V):List (κ×V):=
 if (kvs.any fun kv=>decide (kv.1=k))=true then kvs.map (fun kv=>if kv.1=k then (kv.1,v) else kv) else kvs ++ [(k,v)]
theorem jL {p:κ×V}{r:List (κ×V)}{k:κ} (e:p.1=k):cp (p::r) k=some p.2:=by simp[cp,yT,e]
theorem jm {p:κ×V}{r:List (κ×V)}{k:κ} (e : ¬ p.1=k):cp (p::r) k=cp r k:=by simp[cp,yT,e]
theorem sR (k:κ):∀kvs:List (κ×V),(kvs.any fun kv=>decide (kv.1=k))=(cp kvs k).isSome
 |[]=>rfl
 |p::r=>by
  rw[se]
  by_cases e:p.1=k
  ·simp only[jL e,gm e,Bool.true_or,Option.isSome_some]
  ·rw[jm e,jd e,Rb];exact sR k r
theorem Kq (k j:κ) (y:V):∀kvs:List (κ×V),cp (kvs.map fun kv=>if kv.1=k then (kv.1,y) else kv) j=(cp kvs j).map fun x=>if j=k then y else x
 |[]=>rfl
 |p::r=>by
  have ih:=Kq k j y r;rw[cA]
  by_cases h:p.1=k
  ·rw[aB h]
   by_cases e:p.1=j
   ·rw[jL (p:=(p.1,y)) e,jL e,By,aB (e.symm.trans h)]
   ·rw[jm (p:=(p.1,y)) e,jm e,ih]
  ·rw[au h]
   by_cases e:p.1=j
   ·rw[jL (p:=p) e,jL e,By,au (fun z=>h (e.trans z))]
   ·rw[jm (p:=p) e,jm e,ih]
theorem JN (k j:κ) (y:V):∀kvs:List (κ×V),cp kvs k=none->cp (kvs ++ [(k,y)]) j=if j=k then some y else cp kvs j
 |[],_=>by
  by_cases e:k=j
  ·rw[aB e.symm];exact jL (p:=(k,y)) e
  ·rw[au (fun z=>e z.symm)];exact jm (p:=(k,y)) e
 |p::r,hn=>by
  rw[List.cons_append];have hk : ¬ p.1=k:=fun z=>by rw[jL z]at hn;cases hn
  rw[jm hk]at hn;have ih:=JN k j y r hn
  by_cases e:p.1=j
  ·rw[jL e,jL e,au (fun z=>hk (e.trans z))]
  ·rw[jm e,jm e,ih]
theorem vV (kvs:List (κ×V)) (k j:κ) (y:V):cp (putK kvs k y) j=if j=k then some y else cp kvs j:=by
 unfold putK
 by_cases a:(kvs.any fun kv=>decide (kv.1=k))=true
 ·rw[aB a,Kq]
  rw[sR]at a
  by_cases e:j=k
  ·obtain⟨x,hx⟩:=ahE.mp a
   rw[aB e,e,hx,By,aB rfl]
  ·rw[au e]
   cases cp kvs j with
   |none=>rfl
   |some x=>rw[By,au e]
 ·rw[au a]
  refine JN k j y kvs ?_;rw[sR]at a;cases q:cp kvs k with
  |none=>rfl
  |some x=>rw[q]at a;exact(a rfl).elim
theorem B6 (kvs:List (κ×V)) (k:κ) (v:V):(putK kvs k v).length<=kvs.length+1:=by
 unfold putK;split
 ·rw[ax];omega
 ·rw[de,d4,yQ];omega
theorem Vu {kvs:List (κ×V)}{k:κ} (v:V) (h:cp kvs k=none):putK kvs k v=kvs ++ [(k,v)]:=by
 unfold putK;rw[sR,h];exact au (by decide)
theorem ib.vP {o:Option V}{u:Option Value} (r:ib o u):o.isSome=u.isSome:=by
 cases o with
 |none=>cases u with
  |none=>rfl
  |some _=>exact(show False from r).elim
 |some _=>cases u with
  |none=>exact(show False from r).elim
  |some _=>rfl
theorem KV.val {kvs:List (κ×V)}{vs:List (κ×Value)} (r:KV kvs vs) (k:κ):ib (cp kvs k) (valueAt vs k):=by
 unfold KV at r
 induction r with
 |nil=>exact True.intro
 |@cons p q ps qs h t ih =>
  obtain⟨h1,h2⟩:=h
  by_cases e:p.1=k
  ·have e':q.1=k:=h1.symm.trans e
   have b:valueAt (q::qs) k=some q.2:=by simp[valueAt,yT,e']
   rw[jL e,b];exact h2
  ·have e' : ¬ q.1=k:=fun z=>e (h1.trans z)
   have b:valueAt (q::qs) k=valueAt qs k:=by simp[valueAt,yT,e']
   rw[jm e,b];exact ih
theorem KV.any {kvs:List (κ×V)}{vs:List (κ×Value)} (r:KV kvs vs) (k:κ):(kvs.any fun kv=>decide (kv.1=k))=vs.any fun kv=>decide (kv.1=k):=by
 unfold KV at r
 induction r with
 |nil=>rfl
 |cons h t ih=>rw[se,se,ih,h.1]
theorem KV.D6 {kvs:List (κ×V)}{vs:List (κ×Value)} (r:KV kvs vs) (k:κ) {y:V}{u:Value} (ry:RelV y u) :
  KV (kvs.map fun kv=>if kv.1=k then (kv.1,y) else kv) (vs.map fun kv=>if kv.1=k then (kv.1,u) else kv):=by
 unfold KV at r ⊢
 induction r with
 |nil=>exact .nil
 |@cons p q ps qs h t ih =>
  rw[cA,cA];refine .cons ?_ ih;obtain⟨h1,h2⟩:=h
  by_cases e:p.1=k
  ·rw[aB e,aB (h1.symm.trans e)];exact⟨h1,ry⟩
  ·rw[au e,au (fun z=>e (h1.trans z))];exact⟨h1,h2⟩
theorem KV.put {kvs:List (κ×V)}{vs:List (κ×Value)} (r:KV kvs vs) (k:κ) {y:V}{u:Value} (ry:RelV y u):KV (putK kvs k y) (stored vs k u):=by
 unfold putK stored;rw[r.any k]
 by_cases e:(vs.any fun kv=>decide (kv.1=k))=true
 ·rw[aB e,aB e];exact r.D6 k ry
 ·rw[au e,au e];exact Paired.snoc r ⟨rfl,ry⟩
theorem KV.keys {kvs:List (κ×V)}{vs:List (κ×Value)} (r:KV kvs vs):kvs.map (·.1)=vs.map (·.1):=by
 unfold KV at r
 induction r with
 |nil=>rfl
 |cons h t ih=>rw[cA,cA,ih,h.1]
theorem KV.length {kvs:List (κ×V)}{vs:List (κ×Value)} (r:KV kvs vs):kvs.length=vs.length:=jF r
end
theorem tO {P:Program}{w:World}{k:Key}{u:Value} (r:RelV (kV k) u):(bB P w).is k u=true:=by
 cases k with
 |inl i=>obtain⟨t,e⟩:=(show ∃t,u=Value.int i t from r);subst e;exact SV P w i t
 |inr x=>obtain⟨t,e⟩:=(show ∃t,u=Value.str x t from r);subst e;exact SW P w x t
theorem JO {P:Program}{w:World}:∀ {ks:List Key}{us:List Value},Vals (ks.map kV) us->ItemsAre (bB P w) ks us
 |[],_,r=>by rw[HM]at r;cases r;exact .nil
 |k::ks,_,r=>by
  rw[cA]at r;cases r with
  |cons h t=>exact .cons (tO h) (JO t)
abbrev KT (H:Hp):List (List Key×V)->List (List Key×Addr×Value)->Prop:=Paired fun p q=>p.1=q.1/\H q.2.1=some (.tup (p.1.map kV))/\RelV p.2 q.2.2
theorem KT.val {H:Hp}{kvs:List (List Key×V)}{xs:List (List Key×Addr×Value)} (r:KT H kvs xs) (k:List Key):ib (cp kvs k) ((atKey xs k).map (·.2)):=by
 induction r with
 |nil=>exact True.intro
 |@cons p q ps qs h t ih =>
  obtain⟨h1,_,h2⟩:=h
  by_cases e:p.1=k
  ·have e':q.1=k:=h1.symm.trans e
   have b:atKey (q::qs) k=some q.2:=by simp[atKey,yT,e']
   rw[jL e,b];exact h2
  ·have e' : ¬ q.1=k:=fun z=>e (h1.trans z)
   have b:atKey (q::qs) k=atKey qs k:=by simp[atKey,yT,e']
   rw[jm e,b];exact ih
theorem KT.D6 {H:Hp}{kvs:List (List Key×V)}{xs:List (List Key×Addr×Value)} (r:KT H kvs xs) (k:List Key) {y:V}{u:Value} (ry:RelV y u) :
  KT H (kvs.map fun kv=>if kv.1=k then (kv.1,y) else kv) (xs.map (putAt k u)):=by
 induction r with
 |nil=>exact .nil
 |@cons p q ps qs h t ih =>
  rw[cA,cA];refine .cons ?_ ih;obtain⟨h1,h2,h3⟩:=h;unfold putAt
  by_cases e:p.1=k
  ·rw[aB e,aB (h1.symm.trans e)];exact⟨h1,h2,ry⟩
  ·rw[au e,au (fun z=>e (h1.trans z))];exact⟨h1,h2,h3⟩
theorem KT.put {H:Hp}{kvs:List (List Key×V)}{xs:List (List Key×Addr×Value)} (r:KT H kvs xs) (k:List Key) {b:Addr}{y:V}{u:Value} (hb:H b=some (.tup (k.map kV))) (ry:RelV y u) :
  KT H (putK kvs k y) (storedH xs k b u):=by
 have e:(kvs.any fun kv=>decide (kv.1=k))=(atKey xs k).isSome:=by
  rw[sR,(r.val k).vP,Rf]
 unfold putK storedH;rw[e]
 by_cases q:(atKey xs k).isSome=true
 ·rw[aB q,aB q];exact r.D6 k ry
 ·rw[au q,au q];exact Paired.snoc r ⟨rfl,hb,ry⟩
theorem KT.keeps {H H':Hp}{kvs:List (List Key×V)}{xs:List (List Key×Addr×Value)} (r:KT H kvs xs) (ht:∀b ys,H b=some (.tup ys)->H' b=some (.tup ys)):KT H' kvs xs:=
 Paired.z5 r fun _ _ z=>⟨z.1,ht _ _ z.2.1,z.2.2⟩
section
variable{P:Program}{w:World}{H:Hp}{h:Heap}{a:Addr}
theorem Mh {u:HO} (ok:cD P w H h) (e:Rd H a u):bu P w H h a u:=e.ok ok
theorem qT {kvs:List (Key×V)} (ok:cD P w H h) (e:Rd H a (.dK kvs)):kvs.length<=sizeLine/\(a==sysModules)=false /\ ∃vs,KV kvs vs/\h.DictOf (bB P w) a vs:=
 show bu P w H h a (.dK kvs) from Mh ok e
theorem zX {kvs:List (Key×V)} (ok:cD P w H h) (e:H a=some (.dK kvs)):kvs.length<=sizeLine/\(a==sysModules)=false /\ ∃vs,KV kvs vs/\h.DictOf (bB P w) a vs:=qT ok (.inl e)
theorem wx {ks:List Key} (ok:cD P w H h) (e:H a=some (.tup (ks.map kV))):(tupleKind (bB P w)).is h ks a:=by
 obtain⟨_,its,r,o,h1,h2,n,h3,_⟩:=(show bu P w H h a (.tup (ks.map kV)) from ok a _ e);exact⟨o,its.toArray,n,h1,h2,h3,by simpa using JO r⟩
theorem wQ {kvs:List (List Key×V)} (ok:cD P w H h) (e:Rd H a (.dT kvs)):kvs.length<=sizeLine/\(a==sysModules)=false /\
  ∃xs,KT H kvs xs/\h.DictOfH (tupleKind (bB P w)) a xs:=by
 obtain⟨z,y,xs,r,o,es,ep,h1,h2,h3,h4,h5⟩:=(show bu P w H h a (.dT kvs) from Mh ok e);refine⟨z,y,xs,r,o,es,ep,h1,h2,h3,h4,fun x hx=>?_,h5⟩;have all:∀ {l:List (List Key×V)}{m:List (List Key×Addr×Value)},KT H l m -> ∀x∈m,(tupleKind (bB P w)).is h x.1 x.2.1:=by
  intro l m q
  induction q with
  |nil=>intro x hx;exact nomatch hx
  |@cons p q ps qs hq t ih =>
   intro x hx;rcases a9.mp hx with e|hx
   ·subst e
    exact wx ok (by rw[<-hq.1];exact hq.2.1)
   ·exact ih x hx
 exact all r x hx
theorem YB {kvs:List (List Key×V)} (ok:cD P w H h) (e:H a=some (.dT kvs)):kvs.length<=sizeLine/\(a==sysModules)=false /\
  ∃xs,KT H kvs xs/\h.DictOfH (tupleKind (bB P w)) a xs:=wQ ok (.inl e)
end
def ig (H:Hp) (a:Addr) (y:V) (r:Option V):Prop:=
 (∃kvs k,Rd H a (.dK kvs)/\y=kV k/\r=cp kvs k) \/ ∃kvs k b,Rd H a (.dT kvs)/\y = .ref b/\H b=some (.tup (k.map kV))/\r=cp kvs k
def rg (H:Hp) (a:Addr) (y v:V) (H':Hp):Prop:=
 (∃kvs k,H a=some (.dK kvs)/\y=kV k/\kvs.length < sizeLine/\H'=upd H a (.dK (putK kvs k v))) \/
 ∃kvs k b,H a=some (.dT kvs)/\y = .ref b/\H b=some (.tup (k.map kV))/\kvs.length < sizeLine/\H'=upd H a (.dT (putK kvs k v))
theorem ig.k {H:Hp}{a:Addr}{kvs:List (Key×V)}{k:Key} (e:H a=some (.dK kvs)):ig H a (kV k) (cp kvs k):= .inl ⟨kvs,k,.inl e,rfl,rfl⟩
theorem rg.k {H:Hp}{a:Addr}{kvs:List (Key×V)}{k:Key}{v:V} (e:H a=some (.dK kvs)) (hl:kvs.length < sizeLine):rg H a (kV k) v (upd H a (.dK (putK kvs k v))):= .inl ⟨kvs,k,e,rfl,hl,rfl⟩
section
variable{X:Cx}{pins:List (Addr×Obj)}{σ:St}{H:Hp}{s:Shared}{a:Addr}{y v:V}{u r:Value}{o:Option V}{A:Around}{E:Value->Shared->Prop}
theorem Inv.big (I:Inv X pins σ H s):sysModules < s.heap.objs.size:=by
 have h:mainGlobals < s.heap.objs.size:=(I.mod.glob.keeps I.bk).lt;exact vy (by decide) h
theorem UH {Q:Value->Shared->Prop} (hu:A.units+1 < cLine) (I:Inv X pins σ H s) (g:ig H a y (some v)) (ry:RelV y u) (h:∀w' s',Inv X pins σ H s'->RelV v w'->Q w' s') :
  wpAny (model X.prog X.w) A (getItem (.ref a) u) Q E s:=by
 rcases g with⟨kvs,k,e,ey,l⟩|⟨kvs,k,b,e,ey,eb,l⟩
 ·subst ey
  obtain⟨z,hd,vs,rel,dd⟩:=qT I.ar e;obtain⟨w',hw,gH⟩:=ib.some_of (v:=v) (o:=valueAt vs k) (by rw[l];exact rel.val k)
  exact wpAny_getItem_of (tO ry) dd.mapOf hw (h w' _ (I.tok _) gH)
 ·subst ey
  cases (show u=Value.ref b from ry)
  obtain⟨z,hd,xs,rel,dd⟩:=wQ I.ar e;obtain⟨w',hw,gH⟩:=ib.some_of (v:=v) (o:=(atKey xs k).map (·.2)) (by rw[l];exact rel.val k)
  obtain⟨p,hp,ix⟩:=iD.mp hw;refine wpAny_getItem_heap (Ig hu) (wx I.ar eb) dd hp ?_;rw[ix];exact h w' _ (I.tok _) gH
theorem Z2 {Q:Value->Shared->Prop} (hu:A.units+1 < cLine) (I:Inv X pins σ H s) (g:ig H a y o) (ry:RelV y u) (h:∀s',Inv X pins σ H s'->Q (.bool o.isSome) s') :
  wpAny (model X.prog X.w) A (compareOp .In u (.ref a)) Q E s:=by
 rcases g with⟨kvs,k,e,ey,l⟩|⟨kvs,k,b,e,ey,eb,l⟩
 ·subst ey
  obtain⟨z,hd,vs,rel,dd⟩:=qT I.ar e;refine wpAny_in_of (tO ry) hd dd.mapOf ?_;rw[<-(rel.val k).vP,<-l];exact h _ (I.tok _)
 ·subst ey
  cases (show u=Value.ref b from ry)
  obtain⟨z,hd,xs,rel,dd⟩:=wQ I.ar e;refine wpAny_in_heap (Ig hu) (wx I.ar eb) hd dd ?_;have q:=(rel.val k).vP;rw[Rf]at q;rw[<-q,<-l];exact h _ (I.tok _)
theorem Wu {Q:Value->Shared->Prop} (hu:A.units+1 < cLine) (I:Inv X pins σ H s) (g:ig H a y o) (ry:RelV y u) (h:∀s',Inv X pins σ H s'->Q (.bool (!o.isSome)) s') :
  wpAny (model X.prog X.w) A (compareOp .NotIn u (.ref a)) Q E s:=by
 rcases g with⟨kvs,k,e,ey,l⟩|⟨kvs,k,b,e,ey,eb,l⟩
 ·subst ey
  obtain⟨z,hd,vs,rel,dd⟩:=qT I.ar e;refine wpAny_notIn_of (tO ry) hd dd.mapOf ?_;rw[<-(rel.val k).vP,<-l];exact h _ (I.tok _)
 ·subst ey
  cases (show u=Value.ref b from ry)
  obtain⟨z,hd,xs,rel,dd⟩:=wQ I.ar e;refine wpAny_notIn_heap (Ig hu) (wx I.ar eb) hd dd ?_;have q:=(rel.val k).vP;rw[Rf]at q;rw[<-q,<-l];exact h _ (I.tok _)
theorem Li {h':Heap}{t':Nat}{ob:HO} (I:Inv X pins σ H s) (mu:xv (H a)) (hs:Heap.SameBut a s.heap h') (he:∃q,h'.get? a=some q) (new:bu X.prog X.w (upd H a ob) h' a ob) :
  Inv X pins σ (upd H a ob) { s with heap:=h',toks:=t' }:=
 I.write (x:=a) (e:=a) mu (.inl rfl) (fun b q hb z=>(hs.2 b hb).trans z) he new
theorem Du {P:Program}{w:World}{H':Hp}{h':Heap}{kvs:List (Key×V)}{vs:List (Key×Value)} (z:kvs.length<=sizeLine) (hd:(a==sysModules)=false) (rel:KV kvs vs) (dd:h'.DictOf (bB P w) a vs) :
  bu P w H' h' a (.dK kvs):=⟨z,hd,vs,rel,dd⟩
theorem UI {H':Hp}{Q:Unit->Shared->Prop} (hu:A.units+1 < cLine) (I:Inv X pins σ H s) (g:rg H a y v H') (ry:RelV y u) (rv:RelV v r) (h:∀s',Inv X pins σ H' s'->Q () s') :
  wpAny (model X.prog X.w) A (setItem (.ref a) u r) Q E s:=by
 rcases g with⟨kvs,k,e,ey,l,eH⟩|⟨kvs,k,b,e,ey,eb,l,eH⟩
 ·subst ey eH
  obtain⟨z,hd,vs,rel,dd⟩:=zX I.ar e;have hz:vs.length<=sizeLine:=by rw[<-rel.length];exact z
  have hl:(putK kvs k v).length<=sizeLine:=by have:=B6 kvs k v;omega
  refine wpAny_setItem_pairs (hsz:=hz) (tO ry) dd fun h' iK hs=>h _ ?_;have he:∃q,h'.get? a=some q:=let ⟨q,_,_,hq,_⟩:=iK;⟨q,hq⟩;exact Li I (by rw[e];exact True.intro) hs he (Du hl hd (rel.put k rv) iK)
 ·subst ey eH
  cases (show u=Value.ref b from ry)
  obtain⟨z,hd,xs,rel,dd⟩:=YB I.ar e;have hz:xs.length<=sizeLine:=by rw[<-jF rel];exact z
  have hl:(putK kvs k v).length<=sizeLine:=by have:=B6 kvs k v;omega
  refine wpAny_setItem_heap (hsz:=hz) (Ig hu) (wx I.ar eb) dd fun h' iK hs=>h _ ?_;obtain⟨q,es,ep,hq,h2,h3,h4,_,h5⟩:=iK;refine Li I (by rw[e];exact True.intro) hs ⟨q,hq⟩ ⟨hl,hd,_,(rel.put k eb rv).keeps fun c ys ec=>?_,q,es,ep,hq,h2,h3,h4,h5⟩
  rw[ah (bY ec e (fun z=>nomatch z))];exact ec
end
section
variable{X:Cx}{pins:List (Addr×Obj)}{σ:St}{H:Hp}{s:Shared}{a:Addr}{kvs:List (Key×V)}{k:Key}{u:Value}{A:Around}{E:Value->Shared->Prop}
theorem YC {Q:Value->Shared->Prop} (I:Inv X pins σ H s) (e:Rd H a (.dK kvs)) (h:∀t s',Inv X pins σ H s'->Q (.int kvs.length t) s'):wpAny (model X.prog X.w) A (call (.builtin "len") [.ref a]) Q E s:=by
 obtain⟨z,hd,vs,rel,dd⟩:=qT I.ar e;refine call_len_dict hd dd (by rw[<-rel.length];rw[aE]at z;omega) ?_
 rw[<-rel.length];exact h _ _ (I.tok _)
end
def MP (i:Expr):Prop:= ∀ov iv,subscripted i false ov iv=operate [ov,iv] (getItem ov iv)
theorem Wv {prog:Program}{w:World}{A:Around}{E:Value->Shared->Prop}{s:Shared}{env:Env}{value slice:Expr}{pos:Pos}{T id:String}{Q:Value->Shared->Prop}
  (hl:typeLookup (.type T) "__getitem__" = pure (some (.builtin id))) (hs:MP slice)
  (h:wpAny (model prog w) A (eval value env) (fun o aY=>wpAny (model prog w) A (eval slice env) (fun i lz=>lz.TypeIs o T/\wpAny (model prog w) A (getItem o i) Q E lz) E aY) E s) :
  wpAny (model prog w) A (eval (.Subscript value slice pos) env) Q E s:=by
 refine Subscript_ (k6 h (fun o aY Z3=>k6 Z3 (fun i lz D7=>?_) fun _ _ x=>x) fun _ _ x=>x);obtain⟨hT,D7⟩:=D7;unfold subscriptTail;refine ae ?_;rw[getitemInPython_of_ne hT.not_modules];refine ae (Rg hT hl ?_);have fin:wpAny (model prog w) A (subscripted slice false o i) (fun r MQ=>wpAny (model prog w) A (letTemporaryGo value o r >>= fun _=>pure r) Q E MQ) E lz:=by
  rw[hs o i];exact wpAny_operating (k6 D7 (fun r MQ Z4=>ae (wpAny_letTemporaryGo (aj Z4))) fun _ _ x=>x)
 first
  |exact aj (ae fin)
  |exact ae (aj (ae fin))
  |exact ae fin
theorem Ta {X:Cx}{pins:List (Addr×Obj)}{σ:St}{H:Hp}{s:Shared}{a:Addr}{y:V}{o:Option V} (I:Inv X pins σ H s) (g:ig H a y o):s.TypeIs (.ref a) "dict" :=by
 rcases g with⟨kvs,k,e,_,_⟩|⟨kvs,k,b,e,_,_,_⟩
 ·obtain⟨_,_,vs,_,dd⟩:=qT I.ar e
  exact dd.typeIs
 ·obtain⟨_,_,xs,_,dd⟩:=wQ I.ar e
  exact dd.typeIs
def DH (td ty:TE):TE:=fun σ H Q=>td σ H fun x H1=>ty σ H1 fun y H2=>∃a v,x = .ref a/\ig H2 a y (some v)/\Q v H2
def MR (ty td:TE):TE:=fun σ H Q=>ty σ H fun y H1=>td σ H1 fun x H2=>∃a o,x = .ref a/\ig H2 a y o/\Q (.bl o.isSome) H2
def Ww (ty td:TE):TE:=fun σ H Q=>ty σ H fun y H1=>td σ H1 fun x H2=>∃a o,x = .ref a/\ig H2 a y o/\Q (.bl (!o.isSome)) H2
def YD (td ty tv:TE):TS:=fun D σ H=>tv σ H fun v H1=>td σ H1 fun x H2=>ty σ H2 fun y H3=>∃a H4,x = .ref a/\rg H3 a y v H4/\D.nx σ H4
section
variable{X:Cx}{o i e value:Expr}{pos pos' aiE:Pos}{td ty tv:TE}
theorem lq (hu:X.A.units+1 < cLine) (ho:PE X o td) (hi:PE X i ty) (hs:MP i):PE X (.Subscript o i pos) (DH td ty):=by
 intro pins s σ H Q I h;refine Wv PySem.F.slot_dict_getitem.lookup hs (aA (ho pins s σ H _ I h) fun u s1 ⟨x,H1,I1,rx,q1⟩=>aA (hi pins s1 σ H1 _ I1 q1) fun iv s2 ⟨y,H2,I2,ry,a,v,ex,g,q2⟩=>?_);subst ex;obtain rfl:u=Value.ref a:=rx;exact⟨Ta I2 g,UH hu I2 g ry fun w' s3 I3 gH=>⟨v,H2,I3,gH,q2⟩⟩
theorem LR (hu:X.A.units+1 < cLine) (hi:PE X i ty) (ho:PE X o td):PC X .In i o (MR ty td):=by
 intro pins s σ H Q I h;refine aA (hi pins s σ H _ I h) fun iv s1 ⟨y,H1,I1,ry,q1⟩=>aA (ho pins s1 σ H1 _ I1 q1) fun u s2 ⟨x,H2,I2,rx,a,ov,ex,g,q2⟩=>?_;subst ex;obtain rfl:u=Value.ref a:=rx;exact Z2 hu I2 g ry fun s3 I3=>⟨.bl ov.isSome,H2,I3,rfl,q2⟩
theorem UJ (hu:X.A.units+1 < cLine) (hi:PE X i ty) (ho:PE X o td):PC X .NotIn i o (Ww ty td):=by
 intro pins s σ H Q I h;refine aA (hi pins s σ H _ I h) fun iv s1 ⟨y,H1,I1,ry,q1⟩=>aA (ho pins s1 σ H1 _ I1 q1) fun u s2 ⟨x,H2,I2,rx,a,ov,ex,g,q2⟩=>?_;subst ex;obtain rfl:u=Value.ref a:=rx;exact Wu hu I2 g ry fun s3 I3=>⟨.bl (!ov.isSome),H2,I3,rfl,q2⟩
theorem C7 (hu:X.A.units+1 < cLine) (ho:PE X o td) (hi:PE X i ty) (hv:PE X value tv) (hs:swapsWith value (some (.Subscript o i pos')) pos.line X.env=pure false) :
  PS X (.Assign [.Subscript o i pos'] value pos) (YD td ty tv):=by
 intro pins s σ H D I h;refine wpAny_Assign_Subscript (aA (hv pins s σ H _ I h) fun r s1 ⟨v,H1,I1,rv,q1⟩=>aA (ho pins s1 σ H1 _ I1 q1) fun u s2 ⟨x,H2,I2,rx,q2⟩=>aA (hi pins s2 σ H2 _ I2 q2) fun iv s3 ⟨y,H3,I3,ry,a,H4,ex,g,q3⟩=>?_) hs;subst ex;obtain rfl:u=Value.ref a:=rx;exact UI hu I3 g ry rv fun s4 I4=>⟨σ,H4,I4,q3⟩
end
theorem Vv {P:Program}{w:World}{H:Hp} (h:Heap) (hb:sysModules < h.objs.size):bu P w H (h.push { cls:= .type "dict",data:= .dict #[] }) h.objs.size (.dK []):=
 ⟨bG _,nB.mpr (aQ (bj hb)),[],.nil,Rh h⟩
def XJ:TE:=fun _ H Q=>∀p,H p=none->Q (.ref p) (upd H p (.dK []))
section
variable{X:Cx}{pos:Pos}
theorem CK:PE X (.Dict [] [] pos) XJ:=fun pins s σ H Q I h =>
 wpAny_Dict_empty ⟨.ref s.heap.objs.size,_,I.laid (a:=s.heap.objs.size) (o:= .dK []) (t':=s.toks) (fun _ _ q=>aT _ q) (aO _) (Vv s.heap I.big),rfl,h _ (I.ar.fresh (aO _))⟩
end
end L2
namespace HT
open PySem PyProof.Rows
section
variable{prog:Program}{w:World}{A:Around}{E:Value->Shared->Prop}{s:Shared}
theorem Vw {t b:Addr}{ws:List Value}{Q:Value->Shared->Prop} (ht:IsTup s.heap t ([]:List Value).toArray) (hb:IsTup s.heap b ws.toArray) (h:Q (.ref b) s):wpAny (model prog w) A (binaryOp .Add (.ref t) (.ref b)) Q E s:=by
 obtain⟨⟨cls,dd,data,sl⟩,ho,hc,n,hd⟩:=id ht;obtain⟨⟨MD,Ar,data2,kE⟩,jY,fG,n2,hd2⟩:=id hb;obtain rfl:cls = .type "tuple" :=hc;obtain rfl:data = .seq #[] n:=hd;obtain rfl:MD = .type "tuple" :=fG;obtain rfl:data2 = .seq ws.toArray n2:=hd2;exact concat_meets ⟨_,ho,rfl⟩ ⟨_,jY,rfl⟩ QU QV QW QX (QY _ _) (tuple_addW0 t b #[] ws.toArray n n2 dd Ar sl kE rfl) ⟨ho,jY,h⟩
end
end HT
namespace L2
open PySem PySem.Spec PyProof.Rows PySem.W
theorem Vx {H:Hp}{q:Addr}{o:HO} (hq:H q=none):ao H (upd H q o):=fun b u e=>by rw[ah (aq e hq)];exact e
section
variable{X:Cx}
def YE:R2:=fun x y H Q=>∃a b xs ys,x = .ref a/\y = .ref b/\H a=some (.tup xs)/\H b=some (.tup ys)/\xs.length+ys.length<=sizeLine /\ ∀p H',ao H H'->H' p=some (.tup (xs++ys))->Q (.ref p) H'
theorem Lj:cE X (binaryOp .Add) YE:=by
 intro pins s σ H x y v u Q I rx ry h;obtain⟨a,b,xs,ys,rfl,rfl,ha,hb,hz,q⟩:=h;cases xs with
 |nil =>
  cases rx
  cases ry
  obtain⟨its,r1,p1,_⟩:=I.tuple (aG.of ha);obtain⟨t6,r2,p2,_⟩:=I.tuple (aG.of hb);cases r1
  exact HT.Vw p1 p2 ⟨.ref b,H,I,rfl,q b H (ao.refl _) hb⟩
 |cons z xs=>exact Wj pins s σ H (.ref a) (.ref b) v u Q I rx ry ⟨a,b,_,ys,rfl,rfl,aG.of ha,aG.of hb,by simp,hz,fun e=>q a H (ao.refl _) (by rw[e,gP];exact ha),fun _ p hp=>q p _ (Vx hp) ag⟩
theorem Lk {P:Program}{w:World}{k:Key}{u:Value} (h:(bB P w).is k u=true):RelV (kV k) u:=by
 cases k with
 |inl i=>exact Value.isInt_shape (show Value.isInt i u=true from h)
 |inr x=>exact HI (show Value.isStrOf x u=true from h)
theorem Ll:∀ {xs:List V}{us:List Value},xs.length=us.length->(∀ (i:Nat) x u,xs[i]? = some x->us[i]? = some u->RelV x u)->Vals xs us
 |[],[],_,_=>.nil
 |[],_::_,h,_=>by simp at h
 |_::_,[],h,_=>by simp at h
 |x::xs,u::us,h,f=>.cons (f 0 x u rfl rfl) (Ll (by simpa using h) fun i y v a b=>f (i+1) y v (by simpa using a) (by simpa using b))
theorem TM (hc:X.calm=true):dY X (.type "list") (fun xs H Q=>∃d kvs,xs = [.ref d]/\H d=some (.dK kvs) /\ ∀l,H l=none->Q (.ref l) (upd H l (.lst (kvs.map fun kv=>kV kv.1)))):=by
 intro pins s σ H xs us Q I r h;obtain⟨d,kvs,rfl,hd,q⟩:=h;obtain⟨u,rfl,rx⟩:=vals1 r;cases rx
 obtain⟨hz,lo,vs,kv,dd⟩:=zX I.ar hd;obtain⟨ep,da⟩:=dd.dictAt;have hlen:kvs.length=vs.length:=kv.length;refine kdl_call (kdl_dict (kvs:=vs) (ep:=ep) lo) (I.ok.hd hc) da (by rw[<-hlen];exact hz) fun h' tk acc c kp e it=>?_
 refine⟨.ref s.heap.objs.size,_,I.laid (t':=tk) kp (aO _) (show bu X.prog X.w _ h' _ (.lst (kvs.map fun kv=>kV kv.1)) from⟨by rw[ax];exact hz,acc.toList,c,?_,by rw[ahV];exact e⟩),rfl,q _ (I.ar.fresh (aO _))⟩
 refine Ll (by rw[ax,jG];exact hlen.trans it.1.symm) fun i x v hx hv=>?_
 obtain⟨k,y,hk,hi⟩:=it.2 i v (by rw[<-BD];exact hv)
 obtain⟨kv',jC,rfl⟩:=iD.mp (by rw[<-gA];exact hx)
 have e:kv'.1=k:=by
  clear it hx hv hlen da dd q hz hd
  induction kv generalizing i with
  |nil=>simp at jC
  |cons p _ ih =>
   cases i with
   |zero =>
    simp at jC hk;subst jC;rw[p.1,hk]
   |succ i=>exact ih i (by simpa using hk) (by simpa using jC)
 rw[e];exact Lk hi
end
end L2
namespace HT
open PySem PyProof.Rows
section
open PySem.SeqAt
open PySem.AutoSeq1 (wpAny_loadPart')
open PySem.MeetsSeq PySem.MeetsSeq2 PySem.MeetsSeq3
end
end HT
namespace L2
open PySem PySem.Spec PyProof.Rows PySem.W HT
theorem lr {α β:Type}{F:α->β->Prop}:∀ {l:List α}{m:List β}{i:Nat}{x:α},Paired F l m->l[i]? = some x -> ∃y,m[i]? = some y/\F x y
 |_,_,i,x,.nil,e=>by simp at e
 |_,_,0,x,.cons p _,e=>by simp at e;subst e;exact⟨_,rfl,p⟩
 |_,_,i+1,x,.cons _ t,e=>by simpa using lr (i:=i) t (by simpa using e)
end L2
namespace HT
open PySem PyProof.Rows
open PySem.AutoSeq1 (wpAny_loadPart')
end HT
namespace L2
open PySem PySem.Spec PyProof.Rows PySem.W HT
end L2
namespace HT
open PySem PyProof.Rows
theorem Si:typeLookup (.type "zip") "__getattr__" = pure none:=by rw[BL,BM];kernel_rfl
theorem Tb:typeLookup (.type "zip") "keys" = pure none:=by rw[BL,BM];kernel_rfl
theorem Sa:entryFor table "zip.__getattribute__" = some Builtin.«object.__getattribute__» :=
 Ri (id':= "object.__getattribute__") (by kernel_rfl) (by decide +kernel) (by decide +kernel) (by kernel_rfl)
theorem Sj (a:Addr) (vs:Array Value) (u:Tok) :
  Meets (Builtin.«object.__getattribute__» ⟨[.ref a,.str "keys" u],[]⟩) (fun A R s=>s.heap.get? a=some { cls:= .type "zip",dict:=none,data:= .fields vs,slots:= #[] }/\raisesAttr (.ref a) "keys" A R s):=
 Meets.of_wp fun prog w A R s hs=>by
  obtain⟨hp,g,d,tk,os⟩:=s;obtain⟨hx,hs⟩:=hs;have hT:(⟨hp,g,d,tk,os⟩:Shared).TypeIs (.ref a) "zip" :=⟨_,hx,rfl⟩;have aix:(["__module__","__name__","__qualname__","__doc__","__annotations__"]:List Str).contains "keys" = false:=by decide +kernel
  have aiy:=Tb;unfold Builtin.«object.__getattribute__»
  repeat (any_goals (first|assumption|wp_step))
  exact wpAny_raiseAttrError hs.1 hs.2 (attrMsg_fits (by decide +kernel) (by rw[aE];decide +kernel))
theorem Vy {prog:Program}{w:World}{A:Around}{E:Value->Shared->Prop}{s:Shared}{a:Addr}{vs:Array Value}{Q:Option Value->Shared->Prop} (hx:s.heap.get? a=some { cls:= .type "zip",dict:=none,data:= .fields vs,slots:= #[] }) (hA:A.handled=none)
  (h:∀h' tk,(∀b o,s.heap.get? b=some o->h'.get? b=some o)->Q none { s with heap:=h',toks:=tk }):wpAny (model prog w) A (getAttr? (.ref a) "keys") Q E s:=by
 obtain⟨hp,g,d,tk,os⟩:=s;have hT:∀j0,(⟨hp,g,d,j0,os⟩:Shared).TypeIs (.ref a) "zip" :=fun _=>⟨_,hx,rfl⟩;have f1:=sub_AttributeError;have f3:=Rj.lookup;have f4:=Rj.bind (.ref a);have f5:=Si;unfold getAttr? getAttrBy? getAttrBy
 repeat (any_goals (first|assumption|exact hT _|((with_reducible show wpAny _ _ (call (Value.builtin "zip.__getattribute__") _ _) _ _ _);refine BC Rj (hT _) Sa (F.args_zip_getattribute_2 _ _) (Sj a vs _) ⟨hx,hA,fun h' j0 e d9=>?_⟩)|wp_step))
 obtain⟨t',u',he⟩:=d9.there;show wpAny _ _ (getattributeRaised _ _ _ _ _ _ _) _ _ _;unfold getattributeRaised
 repeat (any_goals (first|assumption|wp_step))
 exact h h' j0 d9.keeps
end HT
namespace HT
open PySem PyProof.Rows PySem.W
def nW (h:Heap) (z TI TO:Addr):Prop:= ∃ (a:Nat) (f1:Bool) (o:Obj),h.get? z=some { cls:= .type "zip",dict:=none,data:= .fields #[rawInt a,.bool f1,.bool false,.ref TI,.ref TO],slots:= #[] }/\h.get? a=some o/\a≠z
section
variable{prog:Program}{w:World}{A:Around}{E:Value->Shared->Prop}{s:Shared}
theorem JP {z TI TO:Addr}{Q:Bool->Shared->Prop} (hz:nW s.heap z TI TO) (h:∀h',nW h' z TI TO->Heap.SameBut z s.heap h'->Q false { s with heap:=h' }) :
  wpAny (model prog w) A (Builtin.SmallTypes.ownedTupleIsFree (.ref z)) Q E s:=by
 obtain⟨a,f1,o,e,ea,nz⟩:=hz;unfold Builtin.SmallTypes.ownedTupleIsFree;refine ae (eQ e rfl (x:=rawInt a) rfl ?_);show wpAny _ _ (loadIfAlive a >>= _) _ _ _;refine ae (kdx_alive ea ?_);show wpAny _ _ (field (.ref z) 1 >>= _) _ _ _;refine ae (eQ e rfl (x:= .bool f1) rfl ?_);cases f1 with
 |true=>exact aj (h _ ⟨a,true,o,e,ea,nz⟩ (Heap.SameBut.refl _ _))
 |false =>
  refine ae (m:=setField (.ref z) 1 (.bool true)) (lX e (by simp) fun h' e' sb=>aj (h h' ⟨a,true,o,e',sb.extBut _ _ nz ea,nz⟩ sb))
end
end HT
namespace HT
open PySem PyProof.Rows PySem.W L2
theorem mh:plainId "dict.update.loop" = true:=by decide +kernel
theorem vQ:entryFor table "dict.update.loop" = some Builtin.«dict.update.loop» :=entryFor_of_fast (by kernel_rfl)
theorem stored_new {K:Type} [DecidableEq K] {kvs:List (K×Value)}{k:K}{v:Value} (h:k ∉ kvs.map (·.1)):stored kvs k v=kvs ++ [(k,v)]:=by
 unfold stored;rw[au];intro z;obtain⟨p,hp,e⟩:=sg.mp z;exact h (aS.mpr ⟨p,hp,by simpa using e⟩)
structure Dv (d z TI TO i1 i2 l1 l2:Addr):Prop where
 z:d≠z
 TI:d≠TI
 TO:d≠TO
 i1:d≠i1
 i2:d≠i2
 l1:d≠l1
 l2:d≠l2
section
variable{prog:Program}{w:World}{A:Around}{R:Result->Shared->Prop}{z TI TO i1 i2 l1 l2 d:Addr}{xs ys:Array Value}{g:Heap}
theorem Kr {E:Value->Shared->Prop}{Q:Unit->Shared->Prop}{s:Shared}{T:Addr}{x y:Value}{k:Key}{kvs:List (Key×Value)}{i:Int} (hT:IsPair s.heap T x y) (hk:(bB prog w).is k x=true) (hd:s.heap.DictOf (bB prog w) d kvs) (new:k ∉ kvs.map (·.1)) (hz:kvs.length<=sizeLine)
  (q:∀h' tk,h'.DictOf (bB prog w) d (kvs ++ [(k,y)])->Heap.SameBut d s.heap h'->Q () { s with heap:=h',toks:=tk }) :
  wpAny (model prog w) A (holding [Value.ref T] (do
   let pair <- (Builtin.Dict.pairItems (.ref T)).tryCatch fun e=>do
    if !(<- isInstance e (.type "TypeError")) then throw e
    rule "dict.update.element-no-sequence"
    raiseError "TypeError" s!"cannot convert dictionary update sequence element #{i} to a sequence"
   match pair with
   |[k,v]=>holding [k,v] (dictSet d k v)
   |l =>
    rule "dict.update.element-length"
    raiseError "ValueError" s!"dictionary update sequence element #{i} has length {l.length}; 2 is required")) Q E s:=by
 refine cX (ae (wpAny_tryCatch ?_));unfold Builtin.Dict.pairItems;refine ae (oP (T:= "tuple") ⟨_,hT,rfl⟩ ?_);rw[aB (by decide)]
 refine ae (nF hT rfl (aj ?_));show wpAny _ _ (holding [x,y] (dictSet d x y)) _ _ _;refine cX (wpAny_dictSet_pairs (hsz:=hz) hk hd fun h' dd sb=>?_);rw[stored_new new]at dd;exact q h' _ dd sb
end
theorem nn {a b:Nat} (h:a < b\/b < a):(a:Addr)≠(b:Addr):=fun e=>by have:a=b:=e;omega
end HT
namespace HT
open PySem PyProof.Rows
section
open PySem.SeqAt
open PySem.AutoSeq1 (wpAny_loadPart')
open PySem.MeetsSeq PySem.MeetsSeq2 PySem.MeetsSeq3
end
end HT
namespace L2
open PySem PySem.Spec PyProof.Rows PySem.W HT
section
variable{X:Cx}
def tP (ks:List Str) (ws:List V):List (Key×V):=(ks.zip ws).map fun p=>(Sum.inr p.1,p.2)
theorem LS:∀ (ks:List Str) (ws:List V) (us:List Value),Vals ws us->KV (tP ks ws) ((ks.map (Sum.inr (α:=Int))).zip us)
 |[],_,_,_=>.nil
 |_::_,_,_,.nil=>.nil
 |k::ks,_,_,.cons h t=>.cons ⟨rfl,h⟩ (LS ks _ _ t)
end
end L2
namespace L2
open PySem PySem.Spec PyProof.Rows PySem.W
def pB (o:Obj):Option Value:=match o.data with|.fields vs=>vs[2]? | _=>none
def Kp (o o':Obj):Prop:=o'.dict=o.dict/\pB o'=pB o
def KD {α:Type}:Sem α->Prop
 |.pure _=>True
 |.raise _=>True
 |.unsupported _=>True
 |.finish _=>True
 |.rule _ k=>KD (k ())
 |.at _ k=>KD (k ())
 |.load _ _ k=>∀o,KD (k o)
 |.update _ _ f k=>(∀o,Kp o (f o))/\KD (k ())
 |.alloc _ k=>∀a,KD (k a)
 |.loadIfAlive _ k=>∀o,KD (k o)
 |.point _ k=>KD (k ())
 |.register _ _=>False
 |.fresh k=>∀t,KD (k t)
 |.ask k=>∀x,KD (k x)
 |.choose _ _ k=>∀n,KD (k n)
 |.os _ _ k=>∀r,KD (k r)
 |.call _ _ _ _ _=>False
 |.handled _ k=>∀v,KD (k v)
 |.newGen _ k=>∀n,KD (k n)
 |.genState _ k=>∀x,KD (k x)
 |.resume _ _ _ _=>False
 |.yield _ _ _ _=>False
 |.stack k=>∀l,KD (k l)
 |.fork _ _=>False
 |.thread k=>∀n,KD (k n)
 |.await _ _ _ _ _=>False
def RD (h h':Heap):Prop:= ∀ (a:Addr) (o:Obj),h.objs[a]? = some o -> ∃o',h'.objs[a]? = some o'/\Kp o o'
theorem RD.refl (h:Heap):RD h h:=fun a o e=>⟨o,e,rfl,rfl⟩
theorem RD.trans {h1 h2 h3:Heap} (a:RD h1 h2) (b:RD h2 h3):RD h1 h3:=fun x o e=>by
 obtain⟨o1,e1,d1⟩:=a x o e;obtain⟨o2,e2,d2⟩:=b x o1 e1;exact⟨o2,e2,d2.1.trans d1.1,d2.2.trans d1.2⟩
theorem RD.push {h0 h:Heap} (r:RD h0 h) (o:Obj):RD h0 (h.push o):=r.trans fun x u e=>⟨u,by
 obtain⟨objs,l⟩:=h;show(objs.push o)[x]? = some u;have hx:x < objs.size:=(yR.mp e).1;rw[Array.getElem?_push,au (bj hx)];exact e,rfl,rfl⟩
theorem RD.update {h0 h:Heap} (r:RD h0 h) {a:Addr}{f:Obj->Obj} (hf:∀o,Kp o (f o)):RD h0 (h.update a f):=r.trans fun x u e=>by
 obtain⟨objs,l⟩:=h;show ∃o',(objs.modify a f)[x]? = some o'/\_;rw[Array.getElem?_modify];have e':objs[x]? = some u:=e
 by_cases c:a=x
 ·rw[aB c,e'];exact⟨f u,rfl,hf u⟩
 ·rw[au c];exact⟨u,e',rfl,rfl⟩
theorem RD.dict {h h':Heap} (r:RD h h') {a:Addr}{o o':Obj} (e:h.get? a=some o) (e':h'.get? a=some o'):Kp o o':=by
 have raw:∀ {g:Heap}{u:Obj},g.get? a=some u->g.objs[a]? = some u:=fun {g u} q=>by
  unfold Heap.get? at q;split at q
  ·cases q
  ·exact q
 obtain⟨o2,e2,d⟩:=r a o (raw e);rw[raw e']at e2;cases e2
 exact d
theorem YF {α:Type}{M:Model}{Γ:PySem.Ctx}{h0:Heap}:∀ {t:Sem α}{Q:α->Pos->Shared->Prop}{E:Value->Pos->Shared->Prop}{p:Pos}{s:Shared},KD t->RD h0 s.heap->Sem.wp M Γ t Q E p s ->
  Sem.wp M Γ t (fun v p s'=>Q v p s'/\RD h0 s'.heap) (fun v p s'=>E v p s'/\RD h0 s'.heap) p s:=by
 intro t
 induction t with
 |pure a=>intro Q E p s _ r h;exact⟨h,r⟩
 |raise e=>intro Q E p s _ r h;exact⟨h,r⟩
 |unsupported w=>intro Q E p s _ r h;exact h
 |finish e=>intro Q E p s _ r h;exact h
 |rule t k ih=>intro Q E p s kd r h;exact ih () kd r h
 |«at» q k ih=>intro Q E p s kd r h;exact ih () kd r h
 |load a q k ih=>intro Q E p s kd r h;obtain⟨o,e,h⟩:=h;exact⟨o,e,ih o (kd o) r h⟩
 |update a q f k ih=>intro Q E p s kd r h;exact⟨h.1,ih () kd.2 (r.update kd.1) h.2⟩
 |alloc o k ih=>intro Q E p s kd r h;exact ih _ (kd _) (r.push o) h
 |loadIfAlive a k ih=>intro Q E p s kd r h;exact ih _ (kd _) r h
 |point l k ih=>intro Q E p s kd r h;exact ih () kd r h
 |register a k ih=>intro Q E p s kd r h;exact h
 |fresh k ih=>intro Q E p s kd r h;exact ih _ (kd _) r h
 |ask k ih=>intro Q E p s kd r h;exact ih _ (kd _) r h
 |choose src n k ih=>intro Q E p s kd r h;exact⟨h.1,ih _ (kd _) r h.2⟩
 |os q l k ih=>intro Q E p s kd r h;exact ih _ (kd _) r h
 |call c hd g l k ih=>intro Q E p s kd r h;exact False.elim kd
 |handled own k ih=>intro Q E p s kd r h;exact ih _ (kd _) r h
 |newGen c k ih=>intro Q E p s kd r h;exact ih _ (kd _) r h
 |genState g k ih=>intro Q E p s kd r h;obtain⟨st,e,h⟩:=h;exact⟨st,e,ih _ (kd _) r h⟩
 |resume g rs l k ih=>intro Q E p s kd r h;exact False.elim kd
 |yield v g l k ih=>intro Q E p s kd r h;exact False.elim kd
 |stack k ih=>intro Q E p s kd r h;exact ih _ (kd _) r h
 |fork c k ih=>intro Q E p s kd r h;exact False.elim kd
 |thread k ih=>intro Q E p s kd r h;exact ih _ (kd _) r h
 |await a t b l k ih=>intro Q E p s kd r h;exact False.elim kd
theorem XM {α:Type}{M:Model}{A:Around}{t:Sem α}{Q:α->Shared->Prop}{E:Value->Shared->Prop}{s:Shared} (k:KD t) (h:wpAny M A t Q E s) :
  wpAny M A t (fun v s'=>Q v s'/\RD s.heap s'.heap) (fun v s'=>E v s'/\RD s.heap s'.heap) s:=fun Γ p hi=>YF k (RD.refl _) (h Γ p hi)
theorem KD.bind {α β:Type}{f:α->Sem β} (hf:∀x,KD (f x)):∀ {t:Sem α},KD t->KD (t.bind f):=by
 intro t
 induction t with
 |pure a=>intro _;exact hf a
 |raise e=>intro _;trivial
 |unsupported w=>intro _;trivial
 |finish e=>intro _;trivial
 |rule t k ih=>intro kd;exact ih () kd
 |«at» q k ih=>intro kd;exact ih () kd
 |load a q k ih=>intro kd o;exact ih o (kd o)
 |update a q g k ih=>intro kd;exact⟨kd.1,ih () kd.2⟩
 |alloc o k ih=>intro kd a;exact ih a (kd a)
 |loadIfAlive a k ih=>intro kd o;exact ih o (kd o)
 |point l k ih=>intro kd;exact ih () kd
 |register a k ih=>intro kd;exact False.elim kd
 |fresh k ih=>intro kd o;exact ih o (kd o)
 |ask k ih=>intro kd o;exact ih o (kd o)
 |choose src n k ih=>intro kd o;exact ih o (kd o)
 |os q l k ih=>intro kd o;exact ih o (kd o)
 |call c hd g l k ih=>intro kd;exact False.elim kd
 |handled own k ih=>intro kd o;exact ih o (kd o)
 |newGen c k ih=>intro kd o;exact ih o (kd o)
 |genState g k ih=>intro kd o;exact ih o (kd o)
 |resume g rs l k ih=>intro kd;exact False.elim kd
 |yield v g l k ih=>intro kd;exact False.elim kd
 |stack k ih=>intro kd o;exact ih o (kd o)
 |fork c k ih=>intro kd;exact False.elim kd
 |thread k ih=>intro kd o;exact ih o (kd o)
 |await a t b l k ih=>intro kd;exact False.elim kd
theorem KD.dq {α β:Type}{t:Sem α}{f:α->Sem β} (h:KD t) (hf:∀x,KD (f x)):KD (t >>= f):=KD.bind hf h
theorem KD.pure {α:Type}{x:α}:KD (Pure.pure x:Sem α):=True.intro
theorem KD.m6 {α:Type}{w:String}:KD (PySem.unsupported w:Sem α):=True.intro
theorem CL:KD PySem.stack:=fun _=>True.intro
theorem C8 {a:Addr}:KD (PySem.load a):=fun _=>True.intro
theorem JQ {a:Addr}{f:Obj->Obj} (h:∀o,Kp o (f o)):KD (PySem.update a f):=⟨h,True.intro⟩
theorem Tc {v:Value}:KD (fieldsOf v):=by
 unfold fieldsOf;split
 ·refine KD.dq C8 fun o=>?_
  split
  ·exact KD.pure
  ·exact KD.m6
 ·exact KD.m6
theorem zv {v:Value}{i:Nat}:KD (field v i):=by
 unfold field;refine KD.dq Tc fun o=>?_;split
 ·exact KD.pure
 ·exact KD.m6
theorem Sk {i:Nat}{x:Value} (hi:i≠2):∀o:Obj,Kp o (Obj.mapFields (·.setIfInBounds i x) o):=fun⟨c,d,dt,s⟩=>by
 cases dt <;> first|exact⟨rfl,rfl⟩|exact⟨rfl,Array.getElem?_setIfInBounds_ne hi⟩
theorem vH {v x:Value}{i:Nat} (hi:i≠2:=by decide):KD (setField v i x):=by
 unfold setField;split
 ·unfold updateField
  refine KD.dq C8 fun o=>?_;split
  ·split
   ·exact JQ (Sk hi)
   ·exact KD.m6
  ·exact KD.m6
 ·exact KD.m6
theorem B4 {ty:String}{vs:List Value}:KD (newFields ty vs):=by
 unfold newFields newObj
 dsimp only
 split
 ·exact KD.m6
 ·show KD (newObjAsIs _ _ _)
  unfold newObjAsIs;exact KD.dq (fun _=>True.intro) fun _=>KD.pure
theorem Td {env:Env}{b:Bool}{l:List Env}:KD (keptBack env b l):=by
 unfold keptBack;split
 ·split
  ·exact KD.pure
  ·unfold underTheClaimsCaller
   exact KD.dq (KD.dq CL fun _=>KD.pure) fun _=>by split <;> exact KD.pure
 ·exact KD.pure
theorem UK {env:Env}{l:List Env}:KD (behindIsImport env l):=by
 unfold behindIsImport;split
 ·exact KD.pure
 ·split
  ·exact KD.pure
  ·exact KD.dq zv fun _=>KD.pure
theorem Ks:∀l:List Env,KD (readyFrames l)
 |[]=>by unfold readyFrames;exact KD.pure
 |env::outer=>by
  unfold readyFrames;split
  ·refine KD.dq C8 fun o=>?_
   split
   ·exact KD.pure
   ·exact KD.dq UK fun _=>KD.dq Td fun _=>KD.dq (JQ fun _=>⟨rfl,rfl⟩) fun _=>Ks outer
  ·exact KD.m6
theorem Ca {env:Env}:KD (PySem.frameOf env):=by
 unfold PySem.frameOf;refine KD.dq ?_ fun l=>KD.dq ?_ fun r=>?_
 ·unfold frameEnvs
  exact KD.dq CL fun _=>KD.pure
 ·unfold frameObject
  split
  ·exact KD.pure
  ·exact KD.dq (Ks _) fun _=>KD.pure
 ·split
  ·exact KD.pure
  ·exact KD.m6
theorem CM {f:Addr}{b:Bool}:KD (entryPlaceOf f b):=by
 unfold entryPlaceOf;refine KD.dq CL fun l=>?_;split
 ·exact KD.pure
 ·exact KD.pure
theorem wc {e:Value}{env:Env}:KD (noteFrame e env):=by
 unfold noteFrame;split
 ·refine KD.dq zv fun hd=>?_
  have last:∀f b,KD (setField e 1 =<< (do EntryCells.newEntry hd (<- PySem.frameOf env) .none (rawInt f) .none (<- entryPlaceOf f b))):=fun f b=>KD.dq (KD.dq Ca fun _=>KD.dq CM fun _=>B4) fun _=>vH;split
  ·refine KD.dq zv fun x=>?_
   split
   ·exact KD.pure
   ·exact KD.dq vH fun _=>KD.dq Ca fun _=>KD.dq CM fun _=>KD.dq B4 fun _=>vH
  ·exact KD.dq Ca fun _=>KD.dq CM fun _=>KD.dq B4 fun _=>vH
 ·exact KD.m6
theorem nH {e:Value}{f:Option Addr}:KD (setFlight e f):=by
 unfold setFlight;refine KD.dq zv fun tb=>?_;split
 ·exact vH
 ·exact KD.pure
theorem Cb {env:Env}{e:Value}:KD (leaving env e):=by
 unfold leaving;exact KD.dq wc fun _=>nH
def eU (n:Option Value) (C:Addr) (dx:Option Addr) (a:Addr):HO:= .ext fun h=>∃ox vs,h.get? a=some ox/\ox.cls = .ref C/\ox.dict=dx/\ox.data = .fields vs/\(∀y,n=some y->vs[2]? = some y)
section
variable{P:Program}{w:World}{H:Hp}{h:Heap}{a C:Addr}{dx:Option Addr}{n:Option Value}
theorem Wx {ox:Obj}{vs:Array Value} (e:h.get? a=some ox) (c:ox.cls = .ref C) (d:ox.dict=dx) (f:ox.data = .fields vs) (z:∀y,n=some y->vs[2]? = some y):bu P w H h a (eU n C dx a):=
 ⟨⟨ox,vs,e,c,d,f,z⟩,⟨_,e⟩,fun _ _ ⟨ox,vs,q,r⟩ k=>⟨ox,vs,k _ q,r⟩⟩
theorem C9 {B:Heap}{l:List Env}{a0:Value} (f:Heap.FlyingW B l a (.ref C) a0 h) (r:∃ox,h.get? a=some ox/\ox.dict=dx/\(∀y,n=some y->pB ox=some y)):bu P w H h a (eU n C dx a):=by
 obtain⟨_,_,_,oe,vs,_,_,_,he,hc,hd,_⟩:=f;obtain⟨ox,e,d,z⟩:=r;rw[he]at e;cases e;exact Wx he hc.1 d hd fun y=>by have:=z y;unfold pB at this;rw[hd]at this;exact this
theorem Dc {O:HO} (ok:cD P w H h) (n:H a=none) (o:bu P w (upd H a O) h a O):cD P w (upd H a O) h:=fun b u e=>by
 by_cases c:b=a
 ·subst c
  rw[ag]at e;cases e;exact o
 ·rw[ah c]at e
  exact(ok b u e).ie (fun _ _ _ q=>q) (fun x q=>by rw[ah (aq q n)];exact q) fun x xs q=>by rw[ah (aq q n)];exact q
theorem Un.add {fs ex:List Addr}{H':Hp}{h':Heap}{O:HO} (u:Un fs ex H H' h h') (n':H' a=none) (n:h.get? a=none):Un fs ex H (upd H' a O) h h':=
 ⟨u.keep,u.slot,fun b o e q x=>by
  have:b≠a:=by rintro rfl;rw[n]at e;cases e
  rw[ah this];exact u.free b o e q x,u.there,fun b xs e=>by
  have q:=u.jR b xs e;rw[ah (aq q n')];exact q,fun b o v e=>by
  have q:=u.jt b o v e;rw[ah (aq q n')];exact q,fun b ps e=>by
  obtain⟨m,q⟩:=u.jS b ps e;exact⟨m,by rw[ah (aq q n')];exact q⟩⟩
theorem Kt {O:HO}:upd (iV H a) a O=upd H a O:=by
 funext b;unfold upd
 by_cases c:b=a
 ·rw[aB c,aB c]
 ·rw[au c,au c,lg c]
end
section
variable{X:Cx}{pins:List (Addr×Obj)}{σ:St}{H:Hp}{s:Shared}{A:Around}{E:Value->Shared->Prop}{a d C:Addr}{dx:Option Addr}{fs:List (Str×V)}{f:Str}{n:Option Value}
theorem UL {b:Bool}{v:V}{Q:Value->Shared->Prop} (I:Inv X pins σ H s) (e:H a=some (eU n C (some d) a)) (ed:H d=some (d7 d fs)) (c:eI X.K C) (no:findIn X.K (.ref C) f=some none) (l:fs.lookup f=some v)
  (h:∀u s',Inv X pins σ H s'->RelV v u->Q u s'):wpAny (model X.prog X.w) A (getAttr (.ref a) f b) Q E s:=by
 obtain⟨ox,vs,at_,hc,hd,hf,_⟩:=(I.ar a _ e).1;obtain⟨_,mA,n',r,_⟩:=I.v9 ed;obtain⟨od,iu,look⟩:=sI n';have rf:=r f;rw[l]at rf;obtain⟨u,hu,ru⟩:=ib.some_of rf;have J:InstAt s.heap a ox C (some od):=⟨at_,hc,by unfold notCls;rw[hf],by rw[hd];exact iu⟩
 exact Wo I.bq J c (findObj_own c.hd no rfl (by rw[look,hu])) (Ux ru) (h u _ (I.tok _) ru)
end
section
variable{X:Cx}{e:Expr}{f:Str}{pos:Pos}{ta:TE}
def YG (X:Cx) (ta:TE) (f:Str):TE:=fun σ H Q=>ta σ H fun x H1=>∃a n C d fs v,x = .ref a/\H1 a=some (eU n C (some d) a)/\H1 d=some (d7 d fs)/\eI X.K C/\findIn X.K (.ref C) f=some none/\fs.lookup f=some v/\Q v H1
theorem Dd (he:PE X e ta) (hb:attributeBase e f X.env (eval e X.env)=eval e X.env:=by rfl):PE X (.Attribute e f pos) (YG X ta f):=by
 intro pins s σ H Q I h;refine Wf hb (aA (he pins s σ H _ I h) fun u s1 ⟨x,H1,I1,rx,a,_,C,d,fs,v,ex,ea,ed,c,n,l,q⟩=>?_);subst ex;obtain rfl:u=Value.ref a:=rx;exact UL I1 ea ed c n l fun u' s2 I2 ru=>⟨v,H1,I2,ru,q⟩
end
section
variable{X:Cx}{pins:List (Addr×Obj)}{σ:St}{H H1:Hp}{s s1:Shared}{a C:Addr}{dx:Option Addr}
theorem Te {e:Expr}{pos:Pos}{te:TE}{D:Ends}{R:Addr->Addr->Option Addr->Hp->Prop} (I:Inv X pins σ H s) (hc:X.calm=true) (he:PE X e te)
  (h:te σ H fun v H1=>∃a C dx i,v = .ref a/\H1 a=some (cf C dx a)/\(∀d,dx=some d -> ∃fs,H1 d=some (d7 d fs))/\eI X.K C/\fc X.K C i=true/\R a C dx H1)
  (fin:∀a C dx H1 s1,Inv X pins σ H1 s1->H1 a=some (cf C dx a)->R a C dx H1->X.xe (.ref a) s1) :
  wpAny (model X.prog X.w) X.A (exec (.Raise (some e) none pos) X.env) (SP X pins D) X.xe s:=by
 rw[arm_exec_Raise];refine ae (oG (show wpAny _ _ (raiseStmt X.env (some (do let v <- eval e X.env;standAt pos;pure v)) none) _ _ _ from ?_));unfold raiseStmt;refine ae (ae (aA (he pins s σ H _ I h) fun u s1 ⟨v,H1,J,r,a,C,dx,i,ev,ea,hd,c,q,hR⟩=>ae (oG (aj ?_))));subst ev;obtain rfl:u = .ref a:=r;obtain⟨ox,od,t,inst,rfl⟩:=J.Lh ea hd;have zY:Looks (model X.prog X.w) s1.heap (isType (.ref a)) false:=fun A' Q' E' s' k z=>by
  simp only[isType,loadHead];exact ae (yP (k _ _ inst.at_) (aj z))
 have E9:Looks (model X.prog X.w) s1.heap (isInstance (.ref a) (.type "BaseException")) true:=inst.type.andThen (BI J.bq c.be);obtain⟨bm,N,nm,qn,bs,z8,sn,sub,ab,col,dd,k0,k1,k2,k3,k5,mN,hC,_⟩:=(sJ J.bq q).ex;have Fb:s1.TypeIs (.ref C) "type" :=⟨_,hC,rfl⟩;refine ae (aj (ae (cX ?_)));unfold excFromValue isExcClass;refine ae (ae (zY.here (aj ?_)));refine ae (E9.here (aj ?_));refine ae (zY.here ?_);unfold raisedInstance;refine ae (ae (inst.type.here (ae (oP Fb ?_))));rw[aB (show(Value.type "type" == Value.type "type")=true from by decide)]
 refine aj ?_;unfold setFlight raiseNew;refine ae (ae (eQ inst.at_ rfl (x:= .none) rfl ?_));rw[au (show ¬ ((Value.none != Value.none)=true) from by decide)]
 refine aj (ae (wpAny_handled_none (J.ok.hd hc) ?_))
 first
  |exact sh (fin a C dx H1 s1 J ea hR)
  |exact ae (aj (sh (fin a C dx H1 s1 J ea hR)))
end
def eN (P:Program) (w:World):ku:=fun outer H s E e s'=>∃ (a:Addr) (n:Option Value) (C:Addr) (a0:Value) (dx:Option Addr) (H':Hp) (B:Heap),e = .ref a/\s'.os=s.os/\AllBare s'.gens/\Heap.FlyingW B outer a (.ref C) a0 s'.heap /\
 (∃ox,s'.heap.get? a=some ox/\ox.dict=dx/\(∀y,n=some y->pB ox=some y))/\(∀h',B.StaysIn h'->s'.heap.UpToSlots h'->Un (cH outer) [] H H' s.heap h'/\cD P w H' h')/\H' a=none/\s.heap.get? a=none/\E (.ref C) (some a) (upd H' a (eU n C dx a))
theorem iS {α:Type}{M:Model}{A:Around}{t:Sem α}{Q Q':α->Shared->Prop}{E:Value->Shared->Prop}{s:Shared} (k:KD t) (h:wpAny M A t Q E s) (q:∀v s',Q v s'->RD s.heap s'.heap->Q' v s'):wpAny M A t Q' E s:=
 k6 (XM k h) (fun v s' z=>q v s' z.1 z.2) fun _ _ z=>z.1
section
variable{P:Program}{w:World}{K:Frag}{mg:Str->Option Value}{base:Heap}{N:List Str}{qual:Str}{scope:Scope}{f:Addr}{cd:Value}{A:Around}{outer:List Env}{s:Shared}{H:Hp}{E:XK}
def Wy (K:Frag) (H0:Hp) (E:XK) (te:TE):TS:=fun _ σ H=>te σ H fun v H1=>∃a C dx i,v = .ref a/\H1 a=some (cf C dx a)/\(∀d,dx=some d -> ∃fs,H1 d=some (d7 d fs))/\eI K C/\fc K C i=true/\H0 a=none/\E (.ref C) (some a) (upd H1 a (eU (some .none) C dx a))
theorem UM {e:Expr}{pos:Pos}{te:TE} (he:PE (jv (eN P w) P w K mg base N qual scope f cd A outer s H E) e te) :
  PS (jv (eN P w) P w K mg base N qual scope f cd A outer s H E) (.Raise (some e) none pos) (Wy K H E te):=by
 intro pins s1 σ H1 D I h;refine Te (R:=fun a C dx H2=>H a=none/\E (.ref C) (some a) (upd H2 a (eU (some .none) C dx a))) I rfl he h fun a C dx H2 s2 J ea ⟨h0,hE⟩=>?_;have fr:s2.heap.FunFrames base (envOfC qual scope s.heap.objs.size f cd::outer):=J.stack;have all:∀env∈(envOfC qual scope s.heap.objs.size f cd::outer),∀b,env.frame=some b->b∈a::cH (envOfC qual scope s.heap.objs.size f cd::outer):=fun env m b hb=>bJ _ (qp.mpr ⟨env,m,hb⟩);obtain⟨t,at_⟩:=J.excAt ea;have new:s.heap.get? a=none:=by
  have ub:Un (cH outer) [] H H2 s.heap s2.heap:=J.base;cases q:s.heap.get? a with
  |none=>rfl
  |some o =>
   have:=ub.free a o q h0 (by simp)
   rw[ea]at this;cases this
 show wpAny (model P w) _ (leaving _ (.ref a)) _ _ _;refine iS Cb (wpAny_leaving_firstW (Q:=fun _ s'=>∃h',s'={ s2 with heap:=h' }/\Heap.LeftW (hideAll s2.heap (a::cH (envOfC qual scope s.heap.objs.size f cd::outer))) (envOfC qual scope s.heap.objs.size f cd::outer) a (.ref C) (.ref t) s2.heap h') (base:=hideAll s2.heap (a::cH (envOfC qual scope s.heap.objs.size f cd::outer))) (L:=s.heap.objs.size) (a0:= .ref t) J.ok.frames (funFrames_hide fr all) rfl at_ (fun b o q=>of_hideAll _ q) (BN _ aZ) rfl rfl rfl fun h' hL=>⟨h',rfl,hL⟩) fun _ s' ⟨h',es,hL⟩ rd=>?_;subst es;obtain⟨k1,⟨_,_,k2⟩,k3,k4⟩:=hL;have fl:Heap.FlyingW (hideAll s2.heap (a::cH (envOfC qual scope s.heap.objs.size f cd::outer))) outer a (.ref C) (.ref t) h':=⟨k1,BN _ aZ,k2,k3⟩;obtain⟨ox,i7,_⟩:=fl.there;refine⟨a,some .none,C,.ref t,dx,iV H2 a,hideAll s2.heap (a::cH (envOfC qual scope s.heap.objs.size f cd::outer)),rfl,J.os,J.bare,fl,⟨ox,i7,(rd.dict at_ i7).1,fun y ey=>by cases ey;exact(rd.dict at_ i7).2⟩,fun iw kb up=>?_,by unfold iV;rw[aB rfl],new,by rw[Kt];exact hE⟩
 exact J.hidden rfl rfl rfl ea h0 kb (si k4 up)
end
section
variable{P:Program}{w:World}{K:Frag}{mg:Str->Option Value}{base:Heap}{N:List Str}{qual:Str}{f:Addr}
theorem aX.xT {x:Str}{st:Stmt}{fd:FuncData}{ps:List Str}{k:Nat}{sp:Sp} (F:aX K x qual st f fd) (S:b8 N ps (aJ st)) (len:∀vs H Q E,sp vs H Q E->vs.length=ps.length)
  (nV:∀ (cdv:Value) (A:Around) (outer:List Env) (s:Shared) (H:Hp) (vs:List V) (Q:VK) (E:XK),aV k (A.deeper (envOfC qual (aJ st) s.heap.objs.size f cdv))->sp vs H Q E ->
   ∃t,fB (jv (eN P w) P w K mg base N qual (aJ st) f cdv A outer s H E) (cu st) t/\t { nx:=fun _ H'=>Q .aF H',rt:=Q } (start N vs) H):aH P w K mg base (eN P w) (k+1) f fd ps sp:=by
 obtain⟨oc,od,kV,doc,pm,an,cdv,ct,kB,rfl,lk,fh⟩:=F.ex;exact Mf lk fh S len fun A outer s H vs Q E hr jX=>nV cdv A outer s H vs Q E hr jX
end
section
variable{s:Shared}{a C B:Addr}
theorem B5 {A:Around}{E:Value->Shared->Prop}{Q:Bool->Shared->Prop}{P:Program}{w:World}{K:Frag}{ox:Obj}{i:Option Value}{r:Bool} (X:K.In s.heap) (q:fc K B i=true) (me:mroIn K C (.ref B)=some r) (at_:s.heap.get? a=some ox) (cl:ox.cls = .ref C) (h:Q r s) :
  wpAny (model P w) A (excMatches (.ref a) (.ref B)) Q E s:=by
 obtain⟨bm,N,nm,qn,bs,z8,sn,sub,ab,col,dd,k0,k1,k2,k3,k5,mN,hC,_,_,T⟩:=(sJ X q).ex;have L:Looks (model P w) s.heap (isSubtype (.ref C) (.ref B)) r:=BI X me;obtain⟨hh,g,d,tk,os⟩:=s;have hT:bm.contains (.type "BaseException")=true:=T.hasType (by decide)
 have hcB:(Value.ref B::bm).contains (.type "BaseException")=true:=by rw[List.contains_cons,hT,Bool.or_true]
 have f:=tc_notTuple;unfold excMatches
 repeat (first|(with_reducible refine BG at_ ?_;rw[cl])|with_reducible refine BG hC ?_|(with_reducible refine wpAny_isSubtype_exc hC ?_;rw[hcB])|(with_reducible refine L.here ?_)|wp_step)
 cases r <;> (wp_walk;exact h)
end
def Cx.jP (X:Cx) (pins:List (Addr×Obj)) (E:St->XK):Cx:={ X with pn:=X.pn++pins,xe:=fun e s'=>∃aD H s1,Inv X pins aD H s1/\eN X.prog X.w X.stack H s1 (E aD) e s' }
section
variable{X:Cx}{pins wJ:List (Addr×Obj)}{σ:St}{H:Hp}{s:Shared}{E:St->XK}{D:Ends}
theorem Inv.jP (I:Inv X pins σ H s):Inv (X.jP pins E) [] σ H s:=
 ⟨⟨I.ok.mod,I.ok.kind,I.ok.glob,I.ok.blt,I.ok.above,I.ok.inj,I.ok.has,I.ok.oi,I.ok.hd,I.ok.frames,I.ok.lD,I.ok.m3,I.ok.bs,I.ok.jV,I.ok.n5,I.ok.mX,I.ok.fZ,I.ok.kr⟩,I.os,I.bare,I.base,I.loc,I.cell,I.free,I.gT,(fun p hp=>I.pin p (by rw[gP]at hp;exact hp)),I.ar,I.len⟩
theorem Inv.nX (ok:X.Ok) (I:Inv (X.jP pins E) wJ σ H s):Inv X pins σ H s:=
 ⟨ok,I.os,I.bare,I.base,I.loc,I.cell,I.free,I.gT,(fun p hp=>I.pin p (lR _ hp)),I.ar,I.len⟩
theorem Cx.Ok.YH (ok:(X.jP pins E).Ok):X.Ok:=⟨ok.mod,ok.kind,ok.glob,ok.blt,ok.above,ok.inj,ok.has,ok.oi,ok.hd,ok.frames,ok.lD,ok.m3,ok.bs,ok.jV,ok.n5,ok.mX,ok.fZ,ok.kr⟩
theorem SP.nX {f:Flow} (ok:X.Ok) (h:SP (X.jP pins E) wJ D f s):SP X pins D f s:=by
 cases f with
 |next=>obtain⟨aD,H',I,q⟩:=h;exact⟨aD,H',I.nX ok,q⟩
 |brk=>obtain⟨aD,H',I,q⟩:=h;exact⟨aD,H',I.nX ok,q⟩
 |cont=>obtain⟨aD,H',I,q⟩:=h;exact⟨aD,H',I.nX ok,q⟩
 |ret u=>obtain⟨v,aD,H',I,r,q⟩:=h;exact⟨v,aD,H',I.nX ok,r,q⟩
end
section
variable{X:Cx}{Mi:List (Addr×Obj)}{EE:St->XK}{k:Nat}{f:Addr}{fd:FuncData}{ps:List Str}{sp:Sp}{x:Str}{p pos:Pos}{e:Expr}{es:List Expr}{t:TA}
def XN (sp:Sp) (EE:St->XK) (t:TA):TE:=fun σ H Q=>t σ H fun vs H1=>sp vs H1 Q (EE σ)
theorem CN (F:aH X.prog X.w X.K X.mg X.base (eN X.prog X.w) k f fd ps sp) (hr:aV k X.A) (hg:Gl X x) (hm:X.mg x=some (.ref f)) (hk:keepIn X.K (.ref f)=true) (hb:Binds X.K fd ps [])
  (ha:PA (X.jP Mi EE) (e::es) t) (i5:(x==("__debug__" : Str))=false:=by decide) (he:starEach (e::es) X.env=(false,eval e X.env)::starEach es X.env:=by rfl) (cS:(backTo pos (starEach es X.env)).any (·.1)=false:=by rfl) :
  PE (X.jP Mi EE) (.Call (.Name x p) (e::es) [] pos) (XN sp EE t):=by
 intro pins s σ H Q I h;refine oJ (mw I hg hm ?_ i5);refine HW (h₀:=X.base) I.ok.mod.iq hk (aA (ha pos pins s σ H _ I h) fun us s1 ⟨vs,H1,I1,r,q⟩=>⟨I1.bq,?_⟩) he cS;have hl:us.length=ps.length:=by rw[<-r.length];exact F.len _ _ _ _ q
 have jD:=hb s1 us I1.bq (by rw[gP];exact hl)
 rw[gP]at jD;refine oH (qq (F.run X.A X.stack s1 H1 ⟨us,[]⟩ us vs _ _ hr I1.xf jD r q) fun res s2 hq=>?_);cases res with
 |ok fl =>
  cases fl with
  |ret u=>exact I1.after hq
  |next=>exact False.elim hq
  |brk=>exact False.elim hq
  |cont=>exact False.elim hq
 |error ev=>exact⟨σ,H1,s1,I1.nX I1.ok.YH,hq⟩
end
section
variable{X:Cx}{pins:List (Addr×Obj)}{σ:St}{H:Hp}{s:Shared}
theorem zF {M:Model}{A:Around}{E:Value->Shared->Prop}{i:Nat}{x:Str}{pos:Pos}{Q:Unit->Shared->Prop} (I:Inv X pins σ H s) (hN:X.N.Nodup) (hi:X.N[i]? = some x) (hk:X.env.scope.names.lookup x=some .local)
  (h:∀s',Inv X pins (σ.set i none) H s'->Q () s'):wpAny M A (do bindName X.env x .none;unbindBehindTheSuite X.env x pos) Q E s:=by
 obtain⟨m,hn,hl⟩:=id I.loc;have mY:(X.env.scope.kind == .class || (X.env.scope.kind == .module && X.env.locals != X.env.globals))=false:=by rw[I.ok.kind];rfl
 have lE:=I.lE;refine wpAny_nameGoes_keeps hk hn mY fun h' v jA hs=>?_;obtain⟨oL,_,_,NN,_⟩:=id hn;have tracked:cD X.prog X.w H h':=fun b ob e=>by
  refine(I.ar b ob e).ie (fun c w' hc q=>(hs.2 c ?_).trans q) (fun _ q=>q) fun _ _ q=>q;rintro rfl;rcases hc with rfl|hc
  ·rw[I.free]at e;cases e
  ·rw[I.free]at hc;cases hc
 refine h _ ⟨I.ok,I.os,I.bare,⟨fun b o e n hb hx=>?_,fun b o e n hb hx=>?_,I.base.free,fun b o e hx=>?_,I.base.jR,I.base.jt,I.base.jS⟩,⟨_,jA,fun j y v' e1 e2 e3=>?_⟩,fun y c e=>?_,I.free,I.gT,fun p hp=>?_,tracked,by simpa using I.len⟩
 ·exact(hs.2 b (bj (gj (aR e) I.ok.above))).trans (I.base.keep b o e n hb hx)
 ·obtain⟨sl,e1⟩:=I.base.slot b o e n hb hx
  exact⟨sl,(hs.2 b (bj (gj (aR e) I.ok.above))).trans e1⟩
 ·obtain⟨o',e1⟩:=I.base.there b o e hx
  exact⟨o',(hs.2 b (bj (gj (aR e) I.ok.above))).trans e1⟩
 ·by_cases hj:j=i
  ·subst hj
   by_cases aP:j < σ.length
   ·rw[QN aP]at e2;cases e2
   ·rw[Ih (by rw[List.length_set];omega)]at e2;cases e2
  ·rw[QO (aQ hj)]at e2
   obtain⟨u',r',q⟩:=hl j y v' e1 e2 e3;refine⟨u',r',?_⟩;rcases q with⟨k,e⟩|⟨k,c,e,z⟩
   ·refine .inl ⟨k,?_⟩
    have:y≠x:=fun e=>hj (CC hN e1 (e ▸ hi));simp[this,e]
   ·exact .inr ⟨k,c,e,z.sameBut hs (lE y c e)⟩
 ·obtain⟨w',z⟩:=I.cell y c e
  exact⟨w',z.sameBut hs (lE y c e)⟩
 ·obtain⟨e,n,ne,nf,d⟩:=I.pin p hp
  exact⟨(hs.2 p.1 ne).trans e,n,ne,nf,d⟩
end
def N3 (j:Nat) (D:Ends):Ends:={ nx:=fun σ H=>D.nx (σ.set j none) H,rt:=D.rt,bk:=fun σ H=>D.bk (σ.set j none) H,ct:=fun σ H=>D.ct (σ.set j none) H }
def asE (K:Frag) (B:Addr) (j:Nat) (th:Addr->TS) (D:Ends):St->XK:=fun aD cls oa H2=>(∃C,cls = .ref C/\mroIn K C (.ref B)=some true) /\ ∃a,oa=some a/\th a (N3 j D) (aD.set j (some (.ref a))) H2
section
variable{X:Cx}{j:Nat}{C:Addr}{n cn:Str}{p5 p6 p7:Pos}{b0 b1:Stmt}{body wR:List Stmt}{tb:Ends->TS}{th:Addr->TS}{ci:Option Value}
def Dw (tb:Ends->TS):TS:=fun D σ H=>tb D D σ H
theorem Vz (hb:∀pins D,fB (X.jP pins (asE X.K C j th D)) (b1::body) (tb D))
  (hN:X.N.Nodup) (hj:X.N[j]? = some n) (hn:X.env.scope.names.lookup n=some .local) (h0:X.xe=fun _ _=>False) (hc:X.calm=true) (hs:X.stack=X.env::X.outer) (hf:X.env.frame=some X.env.locals)
  (gc:Gl X cn) (mc:X.mg cn=some (.ref C)) (qc:fc X.K C ci=true) (hh:∀a,fB (X.fY a) (b0::wR) (th a)) (xU:(cn==("__debug__" : Str))=false:=by decide) :
  PS X (.Try (b1::body) [.ExceptHandler (some (.Name cn p5)) (some n) (b0::wR) p6] [] [] p7) (Dw tb):=by
 intro pins s σ H D I h;refine Rk ?_;refine k6 (hb pins D [] s σ H D I.jP h) (fun fl s1 z=>?_) fun ev s2 z=>?_
 ·have z':=SP.nX I.ok z
  cases fl with
  |next=>exact vp z'
  |brk=>exact z'
  |cont=>exact z'
  |ret u=>exact z'
 ·obtain⟨aD,H0,s1,I1,a,nn,C',a0,dx,H',B,rfl,os,bare,m8,⟨ox,i7,hd,hz⟩,rO,na,new,⟨C2,eC,me⟩,a',ea,xV⟩:=z
  cases ea
  cases eC
  rw[hs]at m8;refine iS wc (Rl (Q:=fun _ s'=>∃h',s'={ s2 with heap:=h' }/\Heap.HeldW B (X.env::X.outer) a (.ref C') a0 X.env.locals h'/\s2.heap.UpToSlots h') (by rw[<-hs];exact I1.ok.frames) hf m8 fun h3 held lH=>⟨h3,rfl,held,lH⟩) fun _ s3 ⟨h3,e3,held,lH⟩ xW=>?_
  subst e3;refine iS nH (Ii (Q:=fun _ s'=>∃h',s'={ s2 with heap:=h' }/\Heap.FlyingW B (X.env::X.outer) a (.ref C') a0 h'/\h3.UpToSlots h') held fun h4 ik iy=>⟨h4,rfl,ik,iy⟩) fun _ s4 ⟨h4,e4,ik,iy⟩ xX=>?_;subst e4;have up:s2.heap.UpToSlots h4:=si lH iy;have rd:RD s2.heap h4:=xW.trans xX;have lay:∀h5,Heap.FlyingW B (X.env::X.outer) a (.ref C') a0 h5->s2.heap.UpToSlots h5->RD s2.heap h5->Inv X pins aD (upd H' a (eU nn C' dx a)) { s2 with heap:=h5 }:=fun h5 f5 u5 r5=>by
   obtain⟨u,ok⟩:=rO h5 f5.1 u5;obtain⟨o5,e5,_⟩:=f5.there;exact I1.tL (s':={ s2 with heap:=h5 }) os (u.add na new) (Dc ok na (C9 f5 ⟨o5,e5,(r5.dict i7 e5).1.trans hd,fun y ey=>(r5.dict i7 e5).2.trans (hz y ey)⟩)) bare (fun b z=>absurd z (by simp))
  have J:=lay h4 ik up rd;obtain⟨o4,fH,pT⟩:=ik.there;refine Rm (Rn ?_) (by intro z;cases z)
  refine mw (J.fY a) gc mc ?_ xU;refine B5 (K:=X.K) J.bq qc me fH pT ?_;refine ahW ?_;refine iS nH (lands_againW (Q:=fun _ s'=>∃h',s'={ s2 with heap:=h' }/\Heap.FlyingW B (X.env::X.outer) a (.ref C') a0 h'/\h4.UpToSlots h') ik fun h5 lB lI=>⟨h5,rfl,lB,lI⟩) fun _ s5 ⟨h5,e5,lB,lI⟩ xY=>?_;subst e5;have J5:=lay h5 lB (si up lI) (rd.trans xY);refine sN (X:=X.fY a) (v:= .ref a) (J5.fY a) hN hj (.inl hn) rfl (fun s6 I6=>?_) (.inr hn);refine HP (aA (hh a pins _ _ _ (N3 j D) I6 xV) fun fl s7 z=>?_);cases fl with
  |next=>obtain⟨i4,H7,I7,q⟩:=z;exact zF (I7.uncaught (Y:=X) J5.ok) hN hj hn fun s8 I8=>⟨_,H7,I8,q⟩
  |brk=>obtain⟨i4,H7,I7,q⟩:=z;exact zF (I7.uncaught (Y:=X) J5.ok) hN hj hn fun s8 I8=>⟨_,H7,I8,q⟩
  |cont=>obtain⟨i4,H7,I7,q⟩:=z;exact zF (I7.uncaught (Y:=X) J5.ok) hN hj hn fun s8 I8=>⟨_,H7,I8,q⟩
  |ret u=>obtain⟨v,i4,H7,I7,r,q⟩:=z;exact zF (I7.uncaught (Y:=X) J5.ok) hN hj hn fun s8 I8=>⟨v,_,H7,I8,r,q⟩
end
section
variable{P:Program}{w:World}{K:Frag}{mg:Str->Option Value}{base:Heap}{N:List Str}{qual:Str}{scope:Scope}{f:Addr}{cd:Value}{A:Around}{outer:List Env}{s:Shared}{H:Hp}{E:XK}
theorem DI:Passes (eN P w) (jv (eN P w) P w K mg base N qual scope f cd A outer s H E) E:=by
 rintro pins σ H1 s1 e s2 I ⟨a,n,C,a0,dx,H',B,rfl,os,bare,m8,⟨ox,i7,hd,hz⟩,rO,na,new,hE⟩;show wpAny (model P w) _ (leaving _ (.ref a)) _ _ _;have xB:s1.os=s.os:=I.os;refine iS Cb (wpAny_leaves_onW (Q:=fun _ s'=>∃h',s'={ s2 with heap:=h' }/\Heap.FlyingW B outer a (.ref C) a0 h'/\s2.heap.UpToSlots h') I.ok.frames rfl m8 fun h' fl up=>⟨h',rfl,fl,up⟩) fun _ s' ⟨h',es,fl,up⟩ rd=>?_;subst es;obtain⟨o',gG,_⟩:=fl.there;refine⟨a,n,C,a0,dx,H',B,rfl,os.trans xB,bare,fl,⟨o',gG,(rd.dict i7 gG).1.trans hd,fun y ey=>(rd.dict i7 gG).2.trans (hz y ey)⟩,fun iw kb u2=>?_,na,?_,hE⟩
 ·obtain⟨u,ok⟩:=rO iw kb (si up u2)
  have J:=I.tL (s':={ s2 with heap:=iw }) os u ok bare (fun b z=>absurd z (by simp))
  exact⟨J.base,J.ar⟩
 ·cases q:s.heap.get? a with
  |none=>rfl
  |some o =>
   obtain⟨o2,e2⟩:=I.base.there a o q (by show a ∉ ([]:List Addr);simp)
   rw[new]at e2;cases e2
end
section
variable{M:Model}{A:Around}{E:Value->Shared->Prop}{s:Shared}{B:Heap}{env:Env}{outer l:List Env}{L e:Addr}{cls a0:Value}
theorem Tf {oe:Obj}{vs:Array Value}{Q:Unit->Shared->Prop} (m9:A.frames=some (env::outer)) (hl:s.heap.FunFrames B (env::outer)) (hf:env.frame=some L)
  (he:s.heap.get? e=some oe) (xZ:B.StaysIn s.heap) (uM:B.get? e=none) (hd:oe.data = .fields vs) (h1:vs[1]? = some .none) (h0:vs[0]? = some a0)
  (h:∀h',Heap.HeldW B (env::outer) e oe.cls a0 L h'->s.heap.UpToSlots h'->Q () { s with heap:=h' }):wpAny M A (noteFrame (.ref e) env) Q E s:=by
 unfold noteFrame;simp only[hf];refine ae (eQ he hd h1 ?_);rw[au (by decide)]
 exact wpAny_entryW m9 hl hf he xZ uM hd (yR.mp h1).1 h0 fun h' ⟨k1,k2,k3,k4⟩=>h h' ⟨k1,uM,k2,k3⟩ k4
theorem IL {Q:Unit->Shared->Prop} (hh:Heap.HeldW B l e cls a0 L s.heap)
  (h:∀h',Heap.HeldW B l e cls a0 L h'->s.heap.UpToSlots h'->Q () { s with heap:=h' }):wpAny M A (setFlight (.ref e) (some L)) Q E s:=by
 obtain⟨xZ,uM,hl,oe,vs,T,oT,ts,he,mY,hd,h1,AE,AF,hT,rP,h3⟩:=hh;have MS:3 < ts.size:=(yR.mp h3).1;have other:∀b,b≠T->(s.heap.update T (Obj.mapFields (·.setIfInBounds 3 ((some L:Option Addr).elim Value.none fun f=>rawInt f)))).get? b=s.heap.get? b:=fun b hb=>iM _ _ (aQ hb);have Ku:∀b o,s.heap.get? b=some o->(∀vs,o.data ≠ .fields vs)->b≠T:=fun b o hb lJ q=>by
  rw[q,hT]at hb;injection hb with hb;subst hb;exact lJ ts rP
 unfold setFlight;refine ae (eQ he hd h1 ?_);rw[aB (show(Value.ref T != Value.none)=true from by simp)]
 refine qr hT rP MS (h _ ⟨fun b o Fc=>(other b fun q=>by rw[q,AE]at Fc;cases Fc).trans (xZ b o Fc),uM,
  hl.of_keeps fun b o hb lJ=>⟨o,(other b (Ku b o hb lJ)).trans hb,rfl⟩,?_⟩ fun b o hb lJ=>⟨o.slots,(other b (Ku b o hb lJ)).trans hb⟩)
 exact⟨oe,vs,T,_,_,(other e (aQ AF)).trans he,mY,hd,h1,AE,AF,lW _ hT (Ro (BO rP _)),BO rP _,by simp[MS]⟩
theorem SH {Z5:String}{Q:Flow->Shared->Prop} (hf:env.frame=some L) (hh:Heap.HeldW B l e cls a0 L s.heap)
  (h:∀h',Heap.HeldW B l e cls a0 L h'->s.heap.UpToSlots h'->RD s.heap h'->E (.ref e) { s with heap:=h' }):wpAny M A (PySem.passOn Z5 (.ref e) env:Sem Flow) Q E s:=by
 have hh':=hh;obtain⟨_,_,_,oe,vs,T,oT,ts,he,mY,hd,h1,_⟩:=hh';unfold PySem.passOn;refine ae (eQ he hd h1 ?_);rw[au (show ¬ ((Value.ref T==Value.none)=true) from by simp),hf]
 first
  |refine ae (iS nH (IL (Q:=fun _ s'=>∃h',s'={ s with heap:=h' }/\Heap.HeldW B l e cls a0 L h'/\s.heap.UpToSlots h') hh fun h' k u=>⟨h',rfl,k,u⟩) fun _ s' ⟨h',es,k,u⟩ rd=>?_)
  |refine ae (aj (ae (iS nH (IL (Q:=fun _ s'=>∃h',s'={ s with heap:=h' }/\Heap.HeldW B l e cls a0 L h'/\s.heap.UpToSlots h') hh fun h' k u=>⟨h',rfl,k,u⟩) fun _ s' ⟨h',es,k,u⟩ rd=>?_)))
 subst es;exact sh (h h' k u rd)
theorem SI {Q:Unit->Shared->Prop} (hf:env.frame=some L) (hh:Heap.HeldW B (env::outer) e cls a0 L s.heap) (hQ:∀h',Heap.FlyingW B outer e cls a0 h'->s.heap.UpToSlots h'->Q () { s with heap:=h' }):wpAny M A (leaving env (.ref e)) Q E s:=by
 unfold leaving;refine ae (wpAny_noteFrame_againW hf hh.2.2.2 ?_);refine Ii hh fun h' hfl up=>?_;obtain⟨k1,k2,⟨_,_,k3⟩,k4⟩:=hfl;exact hQ h' ⟨k1,k2,k3,k4⟩ up
theorem Jc {h h':Heap} (k:∀b o,h.get? b=some o->(∀vs,o.data ≠ .fields vs) -> ∃o',h'.get? b=some o' /\ ∀vs,o'.data ≠ .fields vs):∀ {l:List Env},h.FunFrames B l->h'.FunFrames B l
 |[],_=>trivial
 |_::_,⟨hk,⟨L,o,hf,hn,ho,hd⟩,hr⟩=>by
  obtain⟨o',gG,xw⟩:=k L o ho hd;exact⟨hk,⟨L,o',hf,hn,gG,xw⟩,Jc k hr⟩
theorem UN {h h':Heap}{n:Addr}{m m':Str->Option Value} (hh:Heap.HeldW B l e cls a0 L h) (hs:Heap.SameBut n h h') (n0:h.Ns n m) (n1:h'.Ns n m') (hB:B.get? n=none):Heap.HeldW B l e cls a0 L h':=by
 obtain⟨xZ,uM,hl,oe,vs,T,oT,ts,he,mY,hd,h1,AE,AF,hT,rP,h3⟩:=hh;obtain⟨o0,es0,ep0,ho0,AB,_⟩:=n0;obtain⟨o1,fJ,ep1,AG,uN,_⟩:=n1;have nf:∀b o us,h.get? b=some o->o.data = .fields us->b≠n:=fun b o us hb hu q=>by
  rw[q,ho0]at hb;cases hb;rw[AB]at hu;cases hu
 refine⟨fun b o q=>(hs.2 b fun z=>by rw[z,hB]at q;cases q).trans (xZ b o q),uM,Jc (fun b o hb lJ=>?_) hl,oe,vs,T,oT,ts,(hs.2 e (nf _ _ _ he hd)).trans he,mY,hd,h1,AE,AF,(hs.2 T (nf _ _ _ hT rP)).trans hT,rP,h3⟩
 by_cases c:b=n
 ·subst c
  exact⟨o1,AG,fun vs z=>by rw[uN]at z;cases z⟩
 ·exact⟨o,(hs.2 b c).trans hb,lJ⟩
end
theorem B3:entryFor table "proto.unchain" = some Builtin.«proto.unchain» :=entryFor_of_fast (by kernel_rfl)
section
variable{X:Cx}{pins:List (Addr×Obj)}{σ:St}{H:Hp}{s:Shared}{c:Addr}
def Z6 (c a C t:Addr) (dx:Option Addr) (s1 s2:Shared):Prop:=(∃ox vs,s2.heap.get? a=some ox/\ox.cls = .ref C/\ox.dict=dx/\ox.data = .fields vs/\vs[0]? = some (.ref t)/\vs[1]? = some .none/\vs[2]? = some (.ref c))/\(∀b,b≠a->s2.heap.get? b=s1.heap.get? b)/\s2.os=s1.os/\s2.gens=s1.gens
theorem TN {e:Expr}{pos p0:Pos}{j:Nat}{te:TE}{Q:Flow->Shared->Prop}{XE:Value->Shared->Prop}{R:Addr->Addr->Option Addr->Hp->Prop} (hX:(X.fY c).xe=fun _ _=>False) (I:Inv (X.fY c) pins σ H s) (he:PE (X.fY c) e te)
  (h:te σ H fun v H1=>∃a C dx i C' j4,v = .ref a/\H1 a=some (cf C dx a)/\(∀d,dx=some d -> ∃fs,H1 d=some (d7 d fs))/\eI X.K C/\fc X.K C i=true/\H1 c=some (eU (some .none) C' j4 c)/\a≠c/\R a C dx H1)
  (fin:∀a C t dx H1 s1 s2,Inv (X.fY c) pins σ H1 s1->H1 a=some (cf C dx a)->R a C dx H1->Z6 c a C t dx s1 s2->XE (.ref a) s2) :
  wpAny (model X.prog X.w) (X.A.mark (some (.ref c))) (exec (.Raise (some e) (some (.Constant .none j p0)) pos) X.env) Q XE s:=by
 rw[arm_exec_Raise];refine ae (oG (show wpAny _ _ (raiseStmt X.env (some (do let v <- eval e X.env;standAt pos;pure v)) (some (do let v <- eval (.Constant .none j p0) X.env;standAt pos;pure v))) _ _ _ from ?_));unfold raiseStmt;refine ae (ae (HP (aA (he pins s σ H _ I h) fun u s1 ⟨v,H1,J,r,a,C,dx,i,C',j4,ev,ea,hd,xc,q,hc,N4,hR⟩=>ae (oG (aj ?_)))));subst ev;obtain rfl:u = .ref a:=r;obtain⟨ox,od,t,inst,rfl⟩:=J.Lh ea hd;have zY:Looks (model X.prog X.w) s1.heap (isType (.ref a)) false:=fun A' Q' E' s' k z=>by
  simp only[isType,loadHead];exact ae (yP (k _ _ inst.at_) (aj z))
 have E9:Looks (model X.prog X.w) s1.heap (isInstance (.ref a) (.type "BaseException")) true:=inst.type.andThen (BI J.bq xc.be);obtain⟨bm,N,nm,qn,bs,z8,sn,sub,ab,col,dd,k0,k1,k2,k3,k5,mN,hC,_⟩:=(sJ J.bq q).ex;have naC:C≠a:=fun z=>by rw[z]at hC;have h1:=inst.at_;rw[hC]at h1;cases h1
 obtain⟨oc,vc,cat,_,_,fh,Fd⟩:=(J.ar c _ hc).1;have cx:=Fd _ rfl;have j5:=inst.at_;refine ae (cX (ae (Constant_none (ae (oG (aj (ae (aj ?_))))))));refine ae (cX ?_);unfold excFromValue isExcClass;refine ae (ae (zY.here (aj ?_)));refine ae (E9.here (aj ?_))
 dsimp only
 rw[aB (show(Value.none==Value.none)=true from by decide)]
 refine ae (aj ?_);refine ae (qr j5 rfl (show 3 < 6 by decide) ?_)
 have fj:=lW (h:=s1.heap) (Obj.mapFields (·.setIfInBounds 3 Value.none)) j5 rfl;refine ae (qr fj rfl (show 4 < 6 by decide) ?_)
 have at2:=lW (Obj.mapFields (·.setIfInBounds 4 (Value.bool true))) fj rfl;have AH:∀b,b≠a->((s1.heap.update a (Obj.mapFields (·.setIfInBounds 3 Value.none))).update a (Obj.mapFields (·.setIfInBounds 4 (Value.bool true)))).get? b=s1.heap.get? b:=fun b hb=>(iM _ _ (aQ hb)).trans (iM _ _ (aQ hb));generalize hh2:(s1.heap.update a (Obj.mapFields (·.setIfInBounds 3 Value.none))).update a (Obj.mapFields (·.setIfInBounds 4 (Value.bool true)))=h2 at at2 AH;refine ae (show wpAny _ _ (isType (.ref a)) _ _ _ from ?_);simp only[isType,loadHead];refine ae (yP at2 (aj ?_));unfold raisedInstance;have tyL:Looks (model X.prog X.w) h2 (typeOf (.ref a)) (.ref C):=(Looks.ld at2).andThen .now;have Fb:({ s1 with heap:=h2 }:Shared).TypeIs (.ref C) "type" :=⟨_,(AH C naC).trans hC,rfl⟩;refine ae (ae (tyL.here (ae (oP Fb ?_))));rw[aB (show(Value.type "type" == Value.type "type")=true from by decide)]
 refine aj ?_;unfold setFlight raiseNew;refine ae (ae (eQ at2 rfl (x:= .none) rfl ?_));rw[au (show ¬ ((Value.none != Value.none)=true) from by decide)]
 refine aj (ae (Ij ?_));show wpAny _ _ (if (Value.ref c != Value.ref a)=true then _ else _) _ _ _;rw[aB (show(Value.ref c != Value.ref a)=true from by simp;exact fun z=>N4 z.symm)]
 refine ae (cX (yU (gQ B3 ?_)));unfold Builtin.«proto.unchain»;refine ae (eQ ((AH c (aQ N4)).trans cat) fh cx ?_);rw[aB (show(Value.none==Value.none)=true from by decide)]
 refine ae (aj (aj ?_));show wpAny _ _ (do updateField a 2 (.ref c);throw (Value.ref a)) _ _ _;refine ae (show wpAny _ _ (setField (.ref a) 2 (.ref c)) _ _ _ from qr at2 rfl (show 2 < 6 by decide) ?_)
 have N2:=lW (Obj.mapFields (·.setIfInBounds 2 (Value.ref c))) at2 rfl;refine sh (fin a C t dx H1 s1 _ J ea hR ⟨⟨_,_,N2,rfl,rfl,rfl,rfl,rfl,rfl⟩,fun b hb=>(iM _ _ (aQ hb)).trans (AH b hb),rfl,rfl⟩)
end
section
variable{X:Cx}{pins:List (Addr×Obj)}{σ:St}{H H1:Hp}{s s1:Shared}{a C:Addr}{dx:Option Addr}
theorem Inv.Wz (I:Inv X pins σ H s) (hx:X.ex = []) (hs:X.stack=X.env::X.outer) (hf:X.env.frame=some X.env.locals) (ha:H a=some (cf C dx a)) (h0:X.iW a=none) {h':Heap}
  (k:(hideAll s.heap (a::cH X.stack)).StaysIn h') (wO:∀b o,b∈X.fs->s.heap.get? b=some o -> ∃sl,h'.get? b=some { o with slots:=sl }):Un X.fs [] X.iW (iV H a) X.cC.heap h'/\cD X.prog X.w (iV H a) h':=by
 have ub:Un X.fs [] X.iW H X.cC.heap s.heap:=by have:=I.base;rw[hx]at this;exact this
 have xj:∀b,b∈cH X.stack->b=X.env.locals\/b∈X.fs:=fun b hb=>by
  have:=I.wm b hb;rcases a9.mp this with z|z
  ·exact .inl z
  ·exact .inr z
 have nA:∀ {b:Addr},H b=none->b≠a:=fun e z=>by subst z;rw[ha]at e;cases e
 have get:∀b o,s.heap.get? b=some o->b≠a->b ∉ cH X.stack->h'.get? b=some o:=fun b o e n m=>k b o (hideAll_get _ e fun z=>by
  rcases a9.mp z with z|z
  ·exact n z
  ·exact m z)
 have xk:∀b o,X.cC.heap.get? b=some o->b≠X.env.locals:=fun b o e z=>by
  have h1:=aR e;have h2:=I.ok.above;subst z;exact absurd h1 (BK.mpr h2)
 refine⟨⟨fun b o e n m _=>?_,fun b o e n m _=>?_,fun b o e n _=>Jp (ub.free b o e n (by simp)),fun b o e _=>?_,fun b xs e=>?_,fun b o u e=>?_,fun b ps e=>?_⟩,fun b o e=>?_⟩
 ·have e1:=ub.keep b o e n m (by simp)
  refine get b o e1 (nA (ub.free b o e n (by simp))) fun z=>?_
  rcases xj b z with z|z
  ·exact xk b o e z
  ·exact m z
 ·obtain⟨sl,e1⟩:=ub.slot b o e n m (by simp)
  obtain⟨xy,e2⟩:=wO b _ m e1;exact⟨xy,e2⟩
 ·obtain⟨o',e1⟩:=ub.there b o e (by simp)
  by_cases m:b∈X.fs
  ·obtain⟨sl,e2⟩:=wO b _ m e1
   exact⟨_,e2⟩
  ·refine⟨o',get b o' e1 (fun z=>?_) fun z=>?_⟩
   ·subst z
    have:=ub.free b o e h0 (by simp)
    rw[ha]at this;cases this
   ·rcases xj b z with z|z
    ·exact xk b o e z
    ·exact m z
 ·have e1:=ub.jR b xs e
  rw[lg (bY e1 ha (by intro z;cases z))];exact e1
 ·have e1:=ub.jt b o u e
  rw[lg (bY e1 ha (by intro z;cases z))];exact e1
 ·obtain⟨mo,e1⟩:=ub.jS b ps e
  exact⟨mo,by rw[lg (bY e1 ha (by intro z;cases z))];exact e1⟩
 ·obtain⟨n,e1⟩:=Jo e
  have qY:∀ {c:Addr}{u:HO},H c=some u->c ∉ cH X.stack:=fun q m=>by
   have:=I.zD _ m;rw[q]at this;cases this
  refine(I.ar b o e1).ie (fun c u hc q=>?_) (fun c q=>?_) fun c xs q=>?_
  ·rcases hc with rfl|q1
   ·exact get _ u q n (qY e1)
   ·exact get c u q (bY q1 ha (by intro z;cases z)) (qY q1)
  ·rw[lg (bY q ha (by intro z;cases z))];exact q
  ·rw[lg (bY q ha (by intro z;cases z))];exact q
end
def reE (K:Frag) (H0:Hp) (E:XK) (B:Addr) (j:Nat) (te:Addr->TE):St->XK:=fun aD cls oa H2=>(∃C,cls = .ref C/\mroIn K C (.ref B)=some true) /\ ∃a,oa=some a/\te a (aD.set j (some (.ref a))) H2 fun v H3 =>
 ∃a2 C2 dx i C' j4,v = .ref a2/\H3 a2=some (cf C2 dx a2)/\(∀d,dx=some d -> ∃fs,H3 d=some (d7 d fs))/\eI K C2/\fc K C2 i=true/\H3 a=some (eU (some .none) C' j4 a)/\a2≠a/\H0 a2=none/\E (.ref C2) (some a2) (upd H3 a2 (eU (some (.ref a)) C2 dx a2))
section
variable{P:Program}{w:World}{K:Frag}{mg:Str->Option Value}{base:Heap}{N:List Str}{qual:Str}{scope:Scope}{f:Addr}{cd:Value}{A:Around}{outer:List Env}{s:Shared}{H:Hp}{E:XK}
variable{j jj:Nat}{Bc:Addr}{n cn:Str}{p0 p5 p6 p7 pos:Pos}{b1:Stmt}{body:List Stmt}{e:Expr}{te:Addr->TE}{tb:Ends->TS}{ci:Option Value}
theorem VA {X:Cx} (hX:X=jv (eN P w) P w K mg base N qual scope f cd A outer s H E) (hb:∀pins D,fB (X.jP pins (reE K H E Bc j te)) (b1::body) (tb D))
  (hN:X.N.Nodup) (hj:X.N[j]? = some n) (hn:X.env.scope.names.lookup n=some .local)
  (gc:Gl X cn) (mc:X.mg cn=some (.ref Bc)) (qc:fc X.K Bc ci=true) (he:∀a,PE (X.fY a) e (te a)) (xU:(cn==("__debug__" : Str))=false:=by decide) :
  PS X (.Try (b1::body) [.ExceptHandler (some (.Name cn p5)) (some n) [.Raise (some e) (some (.Constant .none jj p0)) pos] p6] [] [] p7) (Dw tb):=by
 subst hX;generalize hX:jv (eN P w) P w K mg base N qual scope f cd A outer s H E=X at *;have hs:X.stack=X.env::X.outer:=by subst hX;rfl
 have hf:X.env.frame=some X.env.locals:=by subst hX;rfl
 have hex:X.ex = []:=by subst hX;rfl
 have hK:X.K=K:=by subst hX;rfl
 have hH:X.iW=H:=by subst hX;rfl
 have hP:X.prog=P:=by subst hX;rfl
 have hw:X.w=w:=by subst hX;rfl
 intro pins s0 σ H0 D I h;refine Rk ?_;refine k6 (hb pins D [] s0 σ H0 D I.jP h) (fun fl s1 z=>?_) fun ev s2 z=>?_
 ·have z':=SP.nX I.ok z
  cases fl with
  |next=>exact vp z'
  |brk=>exact z'
  |cont=>exact z'
  |ret u=>exact z'
 ·obtain⟨aD,H0,s1,I1,a,nn,C',a0,dx,H',B,rfl,os,bare,m8,⟨ox,i7,hd,hz⟩,rO,na,new,⟨C2,eC,me⟩,a',ea,xV⟩:=z
  cases ea
  cases eC
  rw[hs]at m8;refine iS wc (Rl (Q:=fun _ s'=>∃h',s'={ s2 with heap:=h' }/\Heap.HeldW B (X.env::X.outer) a (.ref C') a0 X.env.locals h'/\s2.heap.UpToSlots h') (by rw[<-hs];exact I1.ok.frames) hf m8 fun h3 held lH=>⟨h3,rfl,held,lH⟩) fun _ s3 ⟨h3,e3,held,lH⟩ xW=>?_
  subst e3;refine iS nH (Ii (Q:=fun _ s'=>∃h',s'={ s2 with heap:=h' }/\Heap.FlyingW B (X.env::X.outer) a (.ref C') a0 h'/\h3.UpToSlots h') held fun h4 ik iy=>⟨h4,rfl,ik,iy⟩) fun _ s4 ⟨h4,e4,ik,iy⟩ xX=>?_;subst e4;have up:s2.heap.UpToSlots h4:=si lH iy;have rd:RD s2.heap h4:=xW.trans xX;have lay:∀h5,Heap.FlyingW B (X.env::X.outer) a (.ref C') a0 h5->s2.heap.UpToSlots h5->RD s2.heap h5->Inv X pins aD (upd H' a (eU nn C' dx a)) { s2 with heap:=h5 }:=fun h5 f5 u5 r5=>by
   obtain⟨u,ok⟩:=rO h5 f5.1 u5;obtain⟨o5,e5,_⟩:=f5.there;exact I1.tL (s':={ s2 with heap:=h5 }) os (u.add na new) (Dc ok na (C9 f5 ⟨o5,e5,(r5.dict i7 e5).1.trans hd,fun y ey=>(r5.dict i7 e5).2.trans (hz y ey)⟩)) bare (fun b z=>absurd z (by simp))
  have J:=lay h4 ik up rd;obtain⟨o4,fH,pT⟩:=ik.there;refine Rm (Rn ?_) (by intro z;cases z)
  refine mw (J.fY a) gc mc ?_ xU;refine B5 (K:=X.K) J.bq qc (hK ▸ me) fH pT ?_;refine ahW ?_;refine iS nH (lands_againW (Q:=fun _ s'=>∃h',s'={ s2 with heap:=h' }/\Heap.FlyingW B (X.env::X.outer) a (.ref C') a0 h'/\h4.UpToSlots h') ik fun h5 lB lI=>⟨h5,rfl,lB,lI⟩) fun _ s5 ⟨h5,e5,lB,lI⟩ xY=>?_;subst e5;have J5:=lay h5 lB (si up lI) (rd.trans xY);refine sN (X:=X.fY a) (v:= .ref a) (J5.fY a) hN hj (.inl hn) rfl (fun s6 I6=>?_) (.inr hn);refine QP (TN (c:=a) (X:=X) (R:=fun a2 C2 AI H3=>H a2=none/\E (.ref C2) (some a2) (upd H3 a2 (eU (some (.ref a)) C2 AI a2))) rfl I6 (he a) (hK ▸ xV) fun a2 C2 t AI H3 s7 s8 J7 AJ ⟨h0,hE⟩ ⟨⟨o8,vs8,Fe,cl8,di8,N5,v0,v1,v2⟩,AK,os8,gs8⟩=>?_);have fr:s7.heap.FunFrames X.base X.stack:=J7.stack;obtain⟨t7,at7⟩:=J7.excAt AJ;have N6:∀b o,s7.heap.get? b=some o->(∀vs,o.data ≠ .fields vs)->b≠a2:=fun b o hb lJ z=>by
   rw[z,at7]at hb;cases hb;exact lJ _ rfl
  have all:∀env∈X.stack,∀b,env.frame=some b->b∈a2::cH X.stack:=fun env m b hb=>bJ _ (qp.mpr ⟨env,m,hb⟩);have ff7:s7.heap.FunFrames (hideAll s7.heap (a2::cH X.stack)) X.stack:=funFrames_hide fr all;have ff8:s8.heap.FunFrames (hideAll s7.heap (a2::cH X.stack)) X.stack:=ff7.of_keeps fun b o hb lJ=>⟨o,(AK b (N6 b o hb lJ)).trans hb,rfl⟩;have st8:(hideAll s7.heap (a2::cH X.stack)).StaysIn s8.heap:=fun b o hb=>by
   have n2:b≠a2:=fun z=>by rw[z,BN _ aZ]at hb;cases hb
   exact(AK b n2).trans (of_hideAll _ hb)
  have nl:X.env.locals≠a2:=fun z=>by
   have:=J7.free;rw[show(X.fY a).env.locals=X.env.locals from rfl,z,AJ]at this;cases this
  have Z7:(hideAll s7.heap (a2::cH X.stack)).get? X.env.locals=none:=BN _ (bJ _ (by rw[hs];exact qp.mpr ⟨X.env,aZ,hf⟩))
  obtain⟨m7,ns7,_⟩:=J7.loc;have Z8:s7.heap.Ns X.env.locals m7:=ns7;have N7:s8.heap.Ns X.env.locals m7:=by
   obtain⟨oo,es,ep,ho,r⟩:=Z8;exact⟨oo,es,ep,(AK _ nl).trans ho,r⟩
  have frA:(X.A.mark (some (.ref a))).frames=some (X.env::X.outer):=by rw[<-hs];exact J7.ok.frames
  refine iS wc (Tf (Q:=fun _ s'=>∃h',s'={ s8 with heap:=h' }/\Heap.HeldW (hideAll s7.heap (a2::cH X.stack)) (X.env::X.outer) a2 o8.cls (.ref t) X.env.locals h'/\s8.heap.UpToSlots h') frA (by rw[<-hs];exact ff8) hf Fe st8 (BN _ aZ) N5 v1 v0 fun h' k u=>⟨h',rfl,k,u⟩) fun _ s9 ⟨h9,e9,Mj,N8⟩ N9=>?_
  subst e9;have Oa:h9.Ns X.env.locals m7:=N8.ns N7;have mY:(X.env.scope.kind == .class || (X.env.scope.kind == .module && X.env.locals != X.env.globals))=false:=by rw[I1.ok.kind];rfl
  refine wpAny_nameGoes_keeps hn Oa mY fun AL v jA kG=>?_;have XO:=UN Mj kG Oa jA Z7;have pas:∀s',X.xe (.ref a2) s'->notedBy (model X.prog X.w) (X.A.mark (some (.ref a))) X.env (cameBackBy (model X.prog X.w) X.A X.env X.xe) (.ref a2) s':=by subst hX;exact fun s' z=>PassesOwnAt.leaving _ _ z
  have xe:∀s',X.xe (.ref a2) s' ↔ wpAny (model X.prog X.w) X.A (leaving X.env (.ref a2)) (fun _ lG=>eN P w X.outer H s E (.ref a2) lG) (fun e' lG=>eN P w X.outer H s E e' lG) s':=by subst hX;exact fun s'=>Iff.rfl
  refine SH hf XO fun pU tD Z9 MT=>pas _ ((xe _).mpr ?_);have XQ:∀b o,b∈X.fs->s7.heap.get? b=some o -> ∃sl,pU.get? b=some { o with slots:=sl }:=fun b o m hb=>by
   obtain⟨_,o',e',nf⟩:=J7.fZ.mem m;rw[hb]at e';cases e';obtain⟨sl,q9⟩:=N8 b o ((AK b (N6 b o hb nf)).trans hb) nf;have AM:b≠X.env.locals:=fun z=>by
    have lt:=aR (show X.cC.heap.get? b=some _ from(J7.ok.fZ.mem m).2.choose_spec.1);have:=J7.ok.above;rw[z]at lt;exact absurd lt (BK.mpr this)
   have q10:AL.get? b=some { o with slots:=sl }:=(kG.2 b AM).trans q9;obtain⟨kE,q11⟩:=Z9 b _ q10 nf;exact⟨kE,q11⟩
  have cx8:pB o8=some (.ref a):=by unfold pB;rw[N5];exact v2
  have Z':∃o,AL.get? a2=some o/\o.dict=AI/\pB o=some (.ref a):=by
   obtain⟨o9,e9,_⟩:=Mj.there;exact⟨o9,(kG.2 a2 (aQ nl)).trans e9,(N9.dict Fe e9).1.trans di8,(N9.dict Fe e9).2.trans cx8⟩
  obtain⟨o10,MU,d10,c10⟩:=Z';have aaa:o8.cls = .ref C2:=cl8;rw[aaa]at tD;refine iS Cb (SI (Q:=fun _ s'=>∃h',s'.heap=h'/\s'.os=s8.os/\s'.gens=s8.gens/\Heap.FlyingW (hideAll s7.heap (a2::cH X.stack)) X.outer a2 (.ref C2) (.ref t) h'/\pU.UpToSlots h') hf tD fun h' k u=>⟨h',rfl,rfl,rfl,k,u⟩) fun _ s12 ⟨x4,AN,aab,aac,MV,aad⟩ MW=>?_;subst AN;obtain⟨o12,D8,_⟩:=MV.there;have aae:s7.os=X.cC.os:=J7.os;have Ff:X.cC=s:=by subst hX;rfl
  have x5:X.fs=cH X.outer:=rfl;have aaf:s.heap.get? a2=none:=by
   have ub:Un X.fs X.ex X.iW H3 X.cC.heap s7.heap:=J7.base;cases q:s.heap.get? a2 with
   |none=>rfl
   |some o =>
    have:=ub.free a2 o (by rw[Ff];exact q) (by rw[hH];exact h0) (by rw[hex];simp)
    rw[AJ]at this;cases this
  refine⟨a2,some (.ref a),C2,.ref t,AI,iV H3 a2,hideAll s7.heap (a2::cH X.stack),rfl,aab.trans (os8.trans (aae.trans (by rw[Ff]))),by rw[aac,gs8];exact J7.bare,MV,⟨o12,D8,?_,fun y ey=>by cases ey;exact(MW.dict (h:=pU) (tD.there.choose_spec.1) D8).2.trans (((MT.dict MU tD.there.choose_spec.1).2).trans c10)⟩,fun h13 k13 u13=>?_,by unfold iV;rw[aB rfl],aaf,by rw[Kt];exact hE⟩
  ·have q:=(MW.dict (h:=pU) (tD.there.choose_spec.1) D8).1
   exact q.trans (((MT.dict MU tD.there.choose_spec.1).1).trans d10)
  ·have r:=J7.Wz (h':=h13) (a:=a2) hex hs hf AJ (by rw[show(X.fY a).iW=X.iW from rfl,hH];exact h0) k13 fun b o m hb=>by
    obtain⟨_,o',e',nf⟩:=J7.fZ.mem m;rw[hb]at e';cases e';obtain⟨sl,q⟩:=XQ b o m hb;obtain⟨kE,q2⟩:=aad b _ q nf;obtain⟨sl3,q3⟩:=u13 b _ q2 nf;exact⟨sl3,q3⟩
   rw[<-Ff,<-hH,<-hP,<-hw];exact r
end
end L2
namespace L2
open PySem PySem.Spec PyProof.Rows PySem.W HT
section
variable{X:Cx}
theorem JR (hc:X.calm=true):dY X (.builtin "any") (fun xs H Q=>∃ (p:Addr) (bs:List Bool),xs = [.ref p]/\ak X.K H p (bs.map V.bl)/\Q (.bl (bs.any id)) H):=by
 intro pins s σ H xs us Q I r h;obtain⟨p,bs,rfl,hq,q⟩:=h;obtain⟨u,rfl,rx⟩:=vals1 r;cases rx
 obtain⟨its,rv,pl,hz⟩:=I.list hq;have hlen:=rv.length;have vals:its=bs.map Value.bool:=by
  clear q hq pl hz r hlen
  induction bs generalizing its with
  |nil=>cases rv;rfl
  |cons b bs ih =>
   cases rv with
   |cons r1 rt=>cases r1;rw[ih _ rt];rfl
 have new:∀b o,s.heap.get? b=some o->b≠s.heap.objs.size:=fun b o e=>bj (aR e);obtain⟨ol,rN,_⟩:=id pl.isList;refine call_any_walk (yL pl.isList ?_);refine⟨s.heap.objs.size,_,_,_,_,_,fun i=>bs.getD i false,rfl,Walks.list (A:=X.A.in1) (I.ok.hd hc) s.heap.objs.size p (new p ol rN) its.toArray,⟨⟨_,bZ _ rfl,rfl,rfl⟩,pl.isList.at fun o e=>aT _ e⟩,fun i v s2 Q2 E2 hv pS=>?_,fun h' tk kp=>?_⟩
 ·rw[vals]at hv
  have:bs[i]?.map Value.bool=some v:=by simpa using hv
  obtain⟨b,hb,rfl⟩:=iD.mp this;refine lT ?_;have e:bs.getD i false=b:=by rw[jJ,hb];rfl
  exact e ▸ pS
 ·have fin:(List.range its.toArray.size).any (fun i=>bs.getD i false)=bs.any id:=by
   have hs:its.toArray.size=bs.length:=by rw[vals];simp
   rw[hs]
   apply vt.mpr
   simp only[sg,nC]
   constructor
   ·rintro⟨i,hi,e⟩
    exact⟨bs[i],jf hi,by simpa [List.getD,hi] using e⟩
   ·rintro⟨b,hb,e⟩
    obtain⟨i,hi,rfl⟩:=vz hb;exact⟨i,hi,by simpa [List.getD,hi] using e⟩
  rw[fin];exact⟨.bl _,H,I.kept (t':=tk) fun b o e=>kp b o (by simpa using new b o e) (aT _ e),rfl,q⟩
def Fg (x:Str):It:=⟨fun i _=>i < x.cps.size,fun i H v H'=>H'=H /\ ∃c,x.cps[i]? = some c/\v = .str ⟨#[c]⟩,fun i _=>x.cps.size<=i⟩
theorem Kv {P:Program}{w:World}{K:Frag}{tg:Expr} (it:Addr) (x:Str) (t:Tok) (T:String) (hT : ["enumerate","zip","dict_itemiterator","dict_reverseitemiterator","odict_iterator","itertools.zip_longest","itertools.pairwise"].contains T=false)
  (W:∀A':Around,A'.handled=none->Walks P w A' it [it] [it] x.cps.size (SignAt x) (fun i h=>h.IsStrIter it T x t i))
  (hs:∀ (A:Around) (i:Nat) (s:Shared) (Q:Value->Shared->Prop) (E:Value->Shared->Prop),s.heap.IsStrIter it T x t i->Q (.ref it) s->wpAny (model P w) A (pyIter (.ref it)) Q E s):Turn P w K tg (Fg x) [it] it (fun i h=>i<=x.cps.size/\h.IsStrIter it T x t i) where
 mem:=by simp
 obj:=fun i h st b hb=>by
  obtain rfl:b=it:=by simpa using hb
  obtain⟨_,o,e,c,d⟩:=st;exact⟨o,e,fun v z=>by rw[d]at z;cases z⟩
 keep:=fun i h h' st k=>by
  obtain⟨l,o,e,r⟩:=st;exact⟨l,o,k it (by simp) _ e,r⟩
 item:=by
  intro X hP hw hK hc i pins s σ H E I hf st hg;subst hP hw hK;obtain⟨f0,f1,f2,f3,f4,f5⟩:=hf it (by simp)
  refine(W X.A (I.ok.hd hc)).item i s _ _ hg st.2 fun v h' tk hv fE kk=>?_;obtain⟨c,u,Fd,rfl⟩:=hv;have I1:Inv X pins σ H { s with heap:=h',toks:=tk }:=I.turned (fun b o hb e=>kk b o (by simpa using hb) e) f0 f1 f3 f4 f5
  obtain⟨o,e,cl,d⟩:=id fE;exact⟨_,rfl,wL (s:={ s with heap:=h',toks:=tk }) e cl d hT ⟨.str ⟨#[c]⟩,H,I1,⟨u,rfl⟩,⟨rfl,c,Fd,rfl⟩,⟨hg,fE⟩,fun b hb=>(hf b hb).1⟩⟩
 done:=by
  intro X hP hw hK hc i pins s σ H E I hf st hg;subst hP hw hK;obtain⟨f0,f1,f2,f3,f4,f5⟩:=hf it (by simp)
  have ei:i=x.cps.size:=Nat.le_antisymm st.1 hg;subst ei;exact(W X.A (I.ok.hd hc)).done s _ _ st.2 fun h' tk kk=>⟨rfl,I.turned (fun b o hb e=>kk b o (by simpa using hb) e) f0 f1 f3 f4 f5⟩
 self:=fun A i s Q E st h=>hs A i s Q E st.2 h
def aag (te:TE):TI:=fun σ H R=>te σ H fun v H1=>∃x,v = .str x/\R (Fg x) H1
theorem XR {tg e:Expr}{te:TE} (he:PE X e te):PI X tg e (aag te):=by
 intro pins s σ H R I h;refine aA (he pins s σ H _ I h) fun v s1 ⟨y,H1,I1,r1,x,ey,q⟩=>?_;subst ey;obtain⟨t,rfl⟩:=r1;have I2:∀o:Obj,Inv X pins σ H1 { s1 with heap:=s1.heap.push o }:=fun o=>I1.kept (t':=s1.toks) fun b ob z=>aT _ z;have fp:∀b ∈ [s1.heap.objs.size],f9 X pins H1 b:=fun b hb=>by
  obtain rfl:b=s1.heap.objs.size:=by simpa using hb
  exact I1.kq (aO _) (I1.ar.fresh (aO _))
 cases ha:x.cps.all (· < 128)
 ·refine wpAny_pyIter_wide ha ?_
  exact⟨s1.heap.objs.size,[s1.heap.objs.size],_,_,H1,rfl,I2 _,Kv s1.heap.objs.size x t "str_iterator" (by decide) (fun A' hA=>Walks.strWide hA _ x t) (fun _ _ _ _ _ st h=>wpAny_pyIter_striter_wide st h),⟨bG _,_,bZ _ rfl,rfl,rfl⟩,fp,q⟩
 ·refine wpAny_pyIter_ascii ha ?_
  exact⟨s1.heap.objs.size,[s1.heap.objs.size],_,_,H1,rfl,I2 _,Kv s1.heap.objs.size x t "str_ascii_iterator" (by decide) (fun A' hA=>Walks.strAscii hA _ x t) (fun _ _ _ _ _ st h=>wpAny_pyIter_striter_ascii st h),⟨bG _,_,bZ _ rfl,rfl,rfl⟩,fp,q⟩
theorem VB {x:Str}{g:TG}{ti:TT}{te:TE}{iJ:St}{Q:VK}{p:Addr}{H1:Hp} (Pv:Nat->List V->St->Hp->Prop) (h0:Pv 0 [] iJ (upd H1 p (.lst []))) (hl:∀i ys τ H,Pv i ys τ H->H p=some (.lst ys))
  (hs:∀i c ys τ H,x.cps[i]? = some c->Pv i ys τ H->g (.str ⟨#[c]⟩) τ H fun dG H4=>ti dG H4 fun b H5=>if b=true then te dG H5 fun y H6=>H6 p=some (.lst ys)/\ys.length < sizeLine /\ ∃m',m' < x.cps.size - i/\CW Pv x.cps.size (i+1) m' (ys ++ [y]) dG (upd H6 p (.lst (ys ++ [y]))) else ∃m',m' < x.cps.size - i/\CW Pv x.cps.size (i+1) m' ys dG H5)
  (hd:∀ys τ H,Pv x.cps.size ys τ H->Q (.ref p) H):lx (Fg x) g ti te iJ Q p H1:=by
 refine⟨CW Pv x.cps.size,⟨x.cps.size,by simp,bG _,h0⟩,?_⟩
 rintro i m ys τ H ⟨rfl,hi,pv⟩;refine⟨hl i ys τ H pv,?_⟩
 by_cases aP:i < x.cps.size
 ·refine .inr ⟨aP,fun v H3 y3=>?_⟩
  obtain⟨e3,c,hc,rfl⟩:=y3;subst e3;exact hs i c ys τ _ hc pv
 ·have e:i=x.cps.size:=by omega
  subst e;exact .inl ⟨aO _,hd ys τ H pv⟩
end
end L2
namespace HT
open PySem PyProof.Rows PySem.W L2
theorem Sm (a:Addr) (vs:Array Value) (n:Nat) (u:Tok) (sl:Array (Option Value)) :
  Meets (Builtin.«object.__getattribute__» ⟨[.ref a,.str "keys" u],[]⟩) (fun A R s=>s.heap.get? a=some { cls:= .type "tuple",dict:=none,data:= .seq vs n,slots:=sl }/\raisesAttr (.ref a) "keys" A R s):=
 meets_getattribute_miss_tuple a vs n sl "keys" u (by rw[BL,BM];kernel_rfl) (by decide +kernel) (by rw[aE];decide +kernel)
theorem VC {prog:Program}{w:World}{A:Around}{E:Value->Shared->Prop}{s:Shared}{a:Addr}{vs:Array Value}{n:Nat}{sl:Array (Option Value)}{Q:Option Value->Shared->Prop} (hx:s.heap.get? a=some { cls:= .type "tuple",dict:=none,data:= .seq vs n,slots:=sl }) (hA:A.handled=none)
  (h:∀h' tk,(∀b o,s.heap.get? b=some o->h'.get? b=some o)->Q none { s with heap:=h',toks:=tk }):wpAny (model prog w) A (getAttr? (.ref a) "keys") Q E s:=by
 obtain⟨hp,g,d,tk,os⟩:=s;have hT:∀j0,(⟨hp,g,d,j0,os⟩:Shared).TypeIs (.ref a) "tuple" :=fun _=>⟨_,hx,rfl⟩;have f1:=sub_AttributeError;have f3:=Rp.lookup;have f4:=Rp.bind (.ref a);have f5:=am_tuple_getattr_none;unfold getAttr? getAttrBy? getAttrBy
 repeat (any_goals (first|assumption|exact hT _|((with_reducible show wpAny _ _ (call (Value.builtin "tuple.__getattribute__") _ _) _ _ _);refine BC Rp (hT _) am_entry_tuple_getattribute (F.args_tuple_getattribute_2 _ _) (Sm a vs n _ sl) ⟨hx,hA,fun h' j0 e d9=>?_⟩)|wp_step))
 obtain⟨t',u',he⟩:=d9.there;show wpAny _ _ (getattributeRaised _ _ _ _ _ _ _) _ _ _;unfold getattributeRaised
 repeat (any_goals (first|assumption|wp_step))
 exact h h' j0 d9.keeps
section
variable{prog:Program}{w:World}{A:Around}{R:Result->Shared->Prop}{it t d:Addr}{vs:Array Value}{g:Heap}
theorem VD {E:Value->Shared->Prop}{Q:Unit->Shared->Prop}{s:Shared}{T:Addr}{x y:Value}{k:Key}{kvs:List (Key×Value)}{i:Int} (hT:IsTup s.heap T #[x,y]) (hk:(bB prog w).is k x=true) (hd:s.heap.DictOf (bB prog w) d kvs) (new:k ∉ kvs.map (·.1)) (hz:kvs.length<=sizeLine)
  (q:∀h' tk,h'.DictOf (bB prog w) d (kvs ++ [(k,y)])->Heap.SameBut d s.heap h'->Q () { s with heap:=h',toks:=tk }) :
  wpAny (model prog w) A (holding [Value.ref T] (do
   let pair <- (Builtin.Dict.pairItems (.ref T)).tryCatch fun e=>do
    if !(<- isInstance e (.type "TypeError")) then throw e
    rule "dict.update.element-no-sequence"
    raiseError "TypeError" s!"cannot convert dictionary update sequence element #{i} to a sequence"
   match pair with
   |[k,v]=>holding [k,v] (dictSet d k v)
   |l =>
    rule "dict.update.element-length"
    raiseError "ValueError" s!"dictionary update sequence element #{i} has length {l.length}; 2 is required")) Q E s:=by
 refine cX (ae (wpAny_tryCatch ?_));unfold Builtin.Dict.pairItems;refine ae (oP hT.typeIs ?_);rw[aB (by decide)]
 obtain⟨o,ho,_,n,uO⟩:=hT;refine ae (nF ho uO (aj ?_));show wpAny _ _ (holding [x,y] (dictSet d x y)) _ _ _;refine cX (wpAny_dictSet_pairs (hsz:=hz) hk hd fun h' dd sb=>?_);rw[stored_new new]at dd;exact q h' _ dd sb
theorem WA (hh:A.in1.handled=none) (Fh:d≠it) (uP:d≠t) (Ob:t≠it) (ps:List (Key×Value)) (nd:(ps.map (·.1)).Nodup) (hz:ps.length<=sizeLine) (hsz:vs.size=ps.length) (hv:IsTup g t vs)
  (gK:∀ (i:Nat) p,ps[i]? = some p -> ∃a x,vs[i]? = some (.ref a)/\a≠it/\a≠d/\IsTup g a #[x,p.2]/\(bB prog w).is p.1 x=true) :
  ∀ (m k:Nat) (s:Shared),ps.length - k=m->k<=ps.length->IsTupIter s.heap it t k->s.heap.DictOf (bB prog w) d (ps.take k) ->
   (∀b o,b≠it->b≠d->g.get? b=some o->s.heap.get? b=some o) ->
   (∀h' tk,h'.DictOf (bB prog w) d ps->(∀b o,b≠it->b≠d->g.get? b=some o->h'.get? b=some o)->R (.ok (.ret .none)) { s with heap:=h',toks:=tk }) ->
   codeAny (model prog w) A (.builtin "dict.update.loop" ⟨[.ref d,.ref it,rawInt k,.none],[]⟩) R s:=by
 have up:∀ {b:Addr}{us:Array Value}{h:Heap},b≠it->b≠d->(∀b o,b≠it->b≠d->g.get? b=some o->h.get? b=some o)->IsTup g b us->IsTup h b us:=fun n1 n2 kp ⟨o,ho,r⟩=>⟨o,kp _ _ n1 n2 ho,r⟩;intro m
 induction m with
 |zero =>
  intro k s hm hk t1 dd kp hR;have ek:k=ps.length:=by omega
  refine gQ vQ (?_:wpAny _ _ _ _ _ _);rw[je mh _];show wpAny _ A.in1 (pyNext (.ref it) >>= _) _ _ s;refine ae (next_tuple_end hh t1 (up Ob uP.symm kp hv) (by simp;omega) fun h' k'=>?_)
  refine ae (m:=Builtin.Dict.addKeywords d []) (aj (aj ?_));have iK:h'.DictOf (bB prog w) d (ps.take k):=dd.at fun o e=>k' d o Fh e;rw[ek,du]at iK;exact hR h' s.toks iK fun b o a1 a2 e=>k' b o a1 (kp b o a1 a2 e)
 |succ m ih =>
  intro k s hm hk t1 dd kp hR;have aP:k < ps.length:=by omega
  have hp:ps[k]? = some ps[k]:=bH aP;obtain⟨a,x,hva,AO,na2,YI,ju⟩:=gK k _ hp;have Fi:ps.take (k+1)=ps.take k ++ [ps[k]]:=by rw[df,hp];rfl
  have new:ps[k].1 ∉ (ps.take k).map (·.1):=fun w=>by
   have e:ps.map (·.1)=(ps.take k).map (·.1)++(ps.drop k).map (·.1):=by rw[<-bc,Rq]
   rw[e,jg]at nd;refine nd.2.2 _ w _ ?_ rfl;rw[yS aP];exact aZ
  refine gQ vQ (?_:wpAny _ _ _ _ _ _);rw[je mh _];show wpAny _ A.in1 (pyNext (.ref it) >>= _) _ _ s;refine ae (next_tuple_item t1 (up Ob uP.symm kp hv) hva fun h' x6 sb=>?_);have uL:∀b o,b≠it->b≠d->g.get? b=some o->h'.get? b=some o:=fun b o a1 a2 e=>sb.extBut b o a1 (kp b o a1 a2 e);have iK:h'.DictOf (bB prog w) d (ps.take k):=dd.at fun o e=>sb.extBut d o Fh e;refine ae (VD (s:={ s with heap:=h' }) (k:=ps[k].1) (up AO na2 uL YI) ju iK new (by rw[cK];omega) fun iw tk t9 Oc=>?_)
  rw[show((k:Int)+1)=((k+1:Nat):Int) from rfl];exact aj ⟨kc mh _,ih (k+1) _ (by omega) aP (x6.extBut Oc.extBut Fh.symm) (by rw[Fi];exact t9) (fun b o a1 a2 e=>Oc.extBut b o a2 (uL b o a1 a2 e)) hR⟩
theorem Ss {E:Value->Shared->Prop}{Q:Value->Shared->Prop}{s:Shared} (hh:A.handled=none) (ps:List (Key×Value)) (nd:(ps.map (·.1)).Nodup) (hz:ps.length<=sizeLine) (hsz:vs.size=ps.length) {n:Nat}{sl:Array (Option Value)}
  (hv:s.heap.get? t=some { cls:= .type "tuple",dict:=none,data:= .seq vs n,slots:=sl })
  (gK:∀ (i:Nat) p,ps[i]? = some p -> ∃a x,vs[i]? = some (.ref a)/\IsTup s.heap a #[x,p.2]/\(bB prog w).is p.1 x=true)
  (q:∀d h' tk,s.heap.objs.size<=d->h'.DictOf (bB prog w) d ps->(∀b o,s.heap.get? b=some o->h'.get? b=some o)->Q (.ref d) { s with heap:=h',toks:=tk }) :
  wpAny (model prog w) A (call (.type "dict") [.ref t]) Q E s:=by
 refine callType_codes (Q₁:=fun obj aY=>obj = .ref s.heap.objs.size/\aY={ s with heap:=s.heap.push { cls:= .type "dict",data:= .dict #[] } }) F.kt_called_dict (F.kt_typeCall_dict_1 _) F.entry_dict_init (kt_code_dict_new _ ⟨rfl,rfl⟩) ?_;rintro obj aY ⟨rfl,rfl⟩;have dn:(s.heap.push { cls:= .type "dict",data:= .dict #[] }).DictOf (bB prog w) s.heap.objs.size []:=Rh s.heap;have k2:∀b o,s.heap.get? b=some o->(s.heap.push { cls:= .type "dict",data:= .dict #[] }).get? b=some o:=fun b o e=>aT _ e;generalize s.heap.push { cls:= .type "dict",data:= .dict #[] }=h2 at dn k2 ⊢;refine⟨dn.typeIs,F.args_dict_init_2 _ _,?_⟩;unfold Builtin.«dict.__init__»;refine ae ?_;unfold Builtin.Dict.selfAndRest;refine ae (Rr dn.typeIs ?_);refine(aj ?_:wpAny _ _ (pure (s.heap.objs.size,[Value.ref t])) _ _ _);show wpAny _ _ (Builtin.Dict.updateFrom "dict.__init__" s.heap.objs.size (.ref t) [] .none) _ _ _;unfold Builtin.Dict.updateFrom;have v2:=k2 _ _ hv;refine ae (oP (T:= "tuple") ⟨_,v2,rfl⟩ ?_);rw[aB (by decide)]
 refine ae (VC v2 hh fun h3 tk3 k3=>?_);rw[aB (by decide)]
 have it3:IsTup h3 t vs:=⟨_,k3 _ _ v2,rfl,n,rfl⟩;refine ae (lU (ae (iter_tuple it3 ?_)));refine aj ⟨kc mh _,?_⟩;have up:∀b o,s.heap.get? b=some o->h3.get? b=some o:=fun b o e=>k3 b o (k2 b o e);have uQ:s.heap.objs.size < h3.objs.size:=by
  obtain⟨o,_,_,ho,_⟩:=dn;exact aR (k3 _ _ ho)
 have dd3:h3.DictOf (bB prog w) s.heap.objs.size []:=dn.at fun o e=>k3 _ o e;have lt:∀ {b:Addr}{o:Obj},s.heap.get? b=some o->b < s.heap.objs.size:=fun e=>aR e;refine WA (A:=A.in1) (g:=s.heap) (it:=h3.objs.size) hh (bj uQ) (lV (lt hv)) (bj (vy (lt hv) uQ)) ps nd hz hsz ⟨_,hv,rfl,n,rfl⟩ (fun i p hp=>?_) _ 0 _ rfl (bG _) ⟨_,bZ _ rfl,rfl,rfl⟩ (dd3.at fun o e=>aT _ e) (fun b o _ _ e=>aT _ (up b o e)) fun h' tk dd kp=>?_
 ·obtain⟨a,x,h1,Od,h3'⟩:=gK i p hp
  obtain⟨o,ho,_⟩:=id Od;exact⟨a,x,h1,bj (vy (lt ho) uQ),bj (lt ho),Od,h3'⟩
 ·exact⟨rfl,q _ h' tk (aO _) dd fun b o e=>kp b o (bj (vy (lt e) uQ)) (bj (lt e)) e⟩
end
end HT
namespace L2
open PySem PySem.Spec PyProof.Rows PySem.W HT
section
variable{X:Cx}
theorem JS:cE X (compareOp .LtE) (fun x y H Q=>∃i j,x = .str i/\y = .str j/\Q (.bl (!decide (j.cps.toList < i.cps.toList))) H):=by
 intro pins s σ H x y v u Q I rx ry ⟨i,j,ex,ey,q⟩;subst ex ey;obtain⟨t,rfl⟩:=rx;obtain⟨t',rfl⟩:=ry;exact P.le_str (cL I q rfl)
def wy (H:Hp) (vs:List V) (kvs:List (Str×V)):Prop:=Paired (fun y p=>∃a,y=V.ref a/\H a=some (.tup [.str p.1,p.2])) vs kvs
theorem wy.same {H H':Hp}{vs:List V}{kvs:List (Str×V)} (h:wy H vs kvs) (s:ao H H'):wy H' vs kvs:=Paired.imp' (fun _ _ ⟨a,e,q⟩=>⟨a,e,s _ _ q⟩) h
def qN (kvs:List (Str×V)):List (Key×V):=kvs.map fun p=>(Sum.inr p.1,p.2)
theorem Lm:∀ (kvs:List (Str×V)) (ys:List Value),ys.length=kvs.length->(∀ (i:Nat) (hi:i < kvs.length),∃y,ys[i]? = some y/\RelV kvs[i].2 y)->KV (qN kvs) ((kvs.map fun p=>(Sum.inr p.1:Key)).zip ys)
 |[],ys,h,_=>.nil
 |p::kvs,[],h,_=>by simp at h
 |p::kvs,y::ys,h,f=>by
  obtain⟨y',e,r⟩:=f 0 (by simp)
  obtain rfl:y=y':=by simpa using e
  exact .cons ⟨rfl,r⟩ (Lm kvs ys (by simpa using h) fun i hi=>by
   obtain⟨y2,e2,r2⟩:=f (i+1) (Nat.succ_lt_succ hi);exact⟨y2,by simpa using e2,r2⟩)
end
end L2
namespace L2
open PySem PySem.Spec PyProof.Rows PySem.W
structure ia (k:Nat) (A:Around):Prop where
 dp:A.depth+3 * k+5 < recursionLimit
 un:A.units+16 * k+200 < cLine
 gd:A.guards=some []
theorem aV.marked {k:Nat}{A:Around} (r:aV k A) (v:Option Value):ia k (A.mark v):=⟨r.dp,r.un,r.gd⟩
theorem ia.deeper {k:Nat}{A:Around} (r:ia (k+1) A) (env:Env):ia k (A.deeper env):=
 ⟨by have:=r.dp;show A.depth+1+3 * k+5 < _;omega,by have:=r.un;show A.units+3+16 * k+200 < _;omega,by first|exact r.gd|simp[Around.deeper,r.gd]⟩
theorem ia.make {k:Nat}{A:Around} (r:ia (k+1) A) (C:Addr) (us:List Value) (kw:List (Str×Value)):ia k (A.under (.builtin "type.__call__" ⟨.ref C::us,kw⟩)):=
 ⟨by have:=r.dp;rw[Ji];omega,by have:=r.un;rw[Jj];omega,IZ r.gd⟩
theorem ia.depth {k:Nat}{A:Around} (r:ia k A):A.depth < recursionLimit:=by have:=r.dp;omega
theorem ia.units {k:Nat}{A:Around} (r:ia k A):A.units+64 < cLine:=by have:=r.un;omega
def tQ (P:Program) (w:World) (K:Frag) (mg:Str->Option Value) (base:Heap) (N:List Str) (qual:Str) (scope:Scope) (f:Addr) (cd:Value) (A:Around) (outer:List Env) (s:Shared) (H:Hp) (E:XK):Cx:=
 { jv aK P w K mg base N qual scope f cd A outer s H E with calm:=false }
structure wU (P:Program) (w:World) (K:Frag) (mg:Str->Option Value) (base:Heap) (k:Nat) (f:Addr) (fd:FuncData) (ps:List Str) (sp:Option Value->Sp):Prop where
 len:∀x vs H Q E,sp x vs H Q E->vs.length=ps.length
 run:∀ (A:Around) (outer:List Env) (s:Shared) (H:Hp) (args:Args) (us:List Value) (vs:List V) (Q:VK) (E:XK),ia k A->n6 P w K mg base A outer s H->BindsTo s fd args (ps.zip us)->Vals vs us->sp A.handled vs H Q E ->
  codeAny (model P w) A (.call (.ref f) args) (CR aK outer P w H s Q E) s
abbrev wV (P:Program) (w:World) (K:Frag) (mg:Str->Option Value) (base:Heap) (k:Nat) (f:Addr) (fd:FuncData) (ps:List Str) (sp:Sp):Prop:=wU P w K mg base k f fd ps fun _=>sp
section
variable{P:Program}{w:World}{K:Frag}{mg:Str->Option Value}{base:Heap}{N:List Str}{qual:Str}{f:Addr}
theorem TQ {scope:Scope}{cd:Value}{A:Around}{outer:List Env}{s s1:Shared}{H H1:Hp}{E:XK}{pins:List (Addr×Obj)}{σ:St}
  (I:Inv (jv aK P w K mg base N qual scope f cd { A with handled:=none } outer s H E) pins σ H1 s1):Inv (tQ P w K mg base N qual scope f cd A outer s H E) pins σ H1 s1:=
 ⟨⟨I.ok.mod,I.ok.kind,I.ok.glob,I.ok.blt,I.ok.above,I.ok.inj,I.ok.has,I.ok.oi,(fun z=>Bool.noConfusion (show false=true from z)),I.ok.frames,I.ok.lD,I.ok.m3,I.ok.bs,I.ok.jV,I.ok.n5,I.ok.mX,I.ok.fZ,I.ok.kr⟩,I.os,I.bare,I.base,I.loc,I.cell,I.free,I.gT,I.pin,I.ar,I.len⟩
theorem aX.Oe {x:Str}{st:Stmt}{fd:FuncData}{ps:List Str}{k:Nat}{sp:Option Value->Sp} (F:aX K x qual st f fd) (S:b8 N ps (aJ st)) (len:∀x vs H Q E,sp x vs H Q E->vs.length=ps.length)
  (nV:∀ (cdv:Value) (A:Around) (outer:List Env) (s:Shared) (H:Hp) (vs:List V) (Q:VK) (E:XK),ia k (A.deeper (envOfC qual (aJ st) s.heap.objs.size f cdv))->sp A.handled vs H Q E ->
   ∃t,fB (tQ P w K mg base N qual (aJ st) f cdv A outer s H E) (cu st) t/\t { nx:=fun _ H'=>Q .aF H',rt:=Q } (start N vs) H):wU P w K mg base (k+1) f fd ps sp:=by
 obtain⟨oc,od,kV,doc,pm,an,cdv,ct,kB,rfl,lk,fh⟩:=F.ex;refine⟨len,fun A outer s H args us vs Q E hr e0 hb r jX=>?_⟩;have hl:=len _ _ _ _ _ jX;have KX:K.In s.heap:=e0.mod.iq.keeps fun b o e=>(e0.bs b o e).1;have lim:s.heap.NoLimit:=e0.mod.nolimit.keeps fun b o e=>(e0.bs b o e).1;have DF:∀y∈ps.zip us,(aJ st).names.lookup y.1=some .local\/((aJ st).names.lookup y.1=some .cell/\((cellsFrom (s.heap.objs.size+1) (aJ st).names []).lookup y.1).isSome=true):=fun⟨n,v⟩ hy=>by
  rcases S.par n (HJ hy).1 with q|q
  ·exact .inl q
  ·exact .inr ⟨q,QS _ _ _ (.inl q)⟩
 refine codeAny_call_function hr.depth (KX _ _ lk) rfl S.co S.gen rfl (PySem.W.codeRec_of KX fh) (hb _ _ _ _ ?_);refine ahI S.kind DF fun env he s1 x=>?_;subst he;refine⟨lim.keeps x.toInCall.keep,codeAny_func ?_⟩;obtain⟨t,ht,hq⟩:=nV cdv A outer s H vs Q E (hr.deeper _) jX;have e0':n6 P w K mg base { A with handled:=none } outer s H:=⟨e0.frames,e0.mod,e0.bs,e0.jV,e0.fZ,e0.kr,e0.ar,e0.bare⟩;have I:Inv (tQ P w K mg base N qual (aJ st) f cdv A outer s H E) [] (start N vs) H s1:=TQ (JH S rfl e0' hl r x);refine k6 (ht [] s1 (start N vs) H _ I hq) (fun fl s' hs=>?_) fun e s' hs=>hs;have fin:∀ {aD:St}{H':Hp}{v:V}{u:Value},Inv (tQ P w K mg base N qual (aJ st) f cdv A outer s H E) [] aD H' s'->RelV v u->Q v H'->CE outer P w H s Q u s':=
  fun {aD H' v u} J rv q=>⟨v,H',J.os,J.bare,J.base,J.ar,rv,q⟩
 cases fl with
 |ret u =>
  obtain⟨v,aD,H',J,rv,q⟩:=hs;exact fin J rv q
 |next =>
  obtain⟨aD,H',J,q⟩:=hs;exact fin (v:=V.aF) (u:=Value.none) J rfl q
 |brk =>
  obtain⟨_,_,_,q⟩:=hs;exact False.elim q
 |cont =>
  obtain⟨_,_,_,q⟩:=hs;exact False.elim q
theorem aX.okH {x:Str}{st:Stmt}{fd:FuncData}{ps:List Str}{k:Nat}{sp:Sp} (F:aX K x qual st f fd) (S:b8 N ps (aJ st)) (len:∀vs H Q E,sp vs H Q E->vs.length=ps.length)
  (nV:∀ (cdv:Value) (A:Around) (outer:List Env) (s:Shared) (H:Hp) (vs:List V) (Q:VK) (E:XK),ia k (A.deeper (envOfC qual (aJ st) s.heap.objs.size f cdv))->sp vs H Q E ->
   ∃t,fB (tQ P w K mg base N qual (aJ st) f cdv A outer s H E) (cu st) t/\t { nx:=fun _ H'=>Q .aF H',rt:=Q } (start N vs) H):wV P w K mg base (k+1) f fd ps sp:=F.Oe S (fun _=>len) nV
end
section
variable{X:Cx}{pins:List (Addr×Obj)}{σ:St}{H:Hp}{s:Shared}{C fI:Addr}{us:List Value}{vs:List V}{Q:VK}{k:Nat}{fd:FuncData}{ps:List Str}{sp:Sp}{E:XK}{x:Str}{p pos:Pos}{e:Expr}{es:List Expr}{t:TA}
theorem VE (q:fc X.K C (some (.ref fI))=true) (fn:isFn X.K (.ref fI)=true) (F:wV X.prog X.w X.K X.mg X.base k fI fd ps sp) (hr:ia (k+1) X.A) (hb:Binds X.K fd ps []) (hx:Passes aK X E) (I:Inv X pins σ H s) (r:Vals vs us) (bw:us.length<=100)
  (h:∀e,H e=none->sp (.ref e::vs) (upd H e (cf C none e)) (fun v H2=>v = .aF/\Q (.ref e) H2) E):wpAny (model X.prog X.w) X.A (call (.ref C) us) (EP X pins σ Q) X.xe s:=by
 obtain⟨⟨up,N,nm,qn,bs,hd,sn,sb,ab,col,od,a0,a1,a2,a3,a5,mN,at_,ns,ni,T⟩⟩:=sJ I.bq q;obtain⟨oI,lk,oc⟩:=iD.mp (show(X.K.lookup fI).map (·.cls)=some (.type "function") from cT.mp fn);have h1:=h (s.heap.objs.size+1) (I.ar.fresh (oN _));have bq:=I.bq;have I2:Inv X pins σ (upd H (s.heap.objs.size+1) (cf C none (s.heap.objs.size+1))) { s with heap:=km s.heap C us }:=I.put (fun _ _ z=>sF z) (Bz (oN _)) (zE Cn);have e0:=I2.xf.make C us [];have jB:=hr.make C us [];have r2:Vals (V.ref (s.heap.objs.size+1)::vs) (Value.ref (s.heap.objs.size+1)::us):= .cons rfl r;have hl:(Value.ref (s.heap.objs.size+1)::us).length=ps.length:=by rw[<-r2.length];exact F.len none _ _ _ _ h1
 have pR:=hb { s with heap:=km s.heap C us } (Value.ref (s.heap.objs.size+1)::us) I2.bq (by rw[gP];exact hl)
 rw[gP]at pR;have run:=F.run _ X.stack _ _ ⟨Value.ref (s.heap.objs.size+1)::us,[]⟩ (Value.ref (s.heap.objs.size+1)::us) _ _ E jB e0 pR r2 h1;obtain⟨hp,g,d,tk,os⟩:=s;refine IM Q6 T at_ ns ni (bq _ _ lk) oc (by rw[aE];omega) (oH (qq run fun r s' hq=>?_))
 cases r with
 |error e=>exact hx pins σ _ _ e s' I2 hq
 |ok fl =>
  cases fl with
  |ret u =>
   obtain⟨v,H',I3,rv,ev,q3⟩:=I2.after hq;subst ev;exact⟨rv,.ref (hp.objs.size+1),H',I3,rfl,q3⟩
  |next=>exact False.elim hq
  |brk=>exact False.elim hq
  |cont=>exact False.elim hq
theorem WB (q:fc X.K C (some (.ref fI))=true) (fn:isFn X.K (.ref fI)=true) (kp:keepIn X.K (.ref C)=true) (F:wV X.prog X.w X.K X.mg X.base k fI fd ps sp) (hr:ia (k+1) X.A) (hb:Binds X.K fd ps []) (hx:Passes aK X E)
  (hg:Gl X x) (hm:X.mg x=some (.ref C)) (ha:PA X (e::es) t) (i5:(x==("__debug__" : Str))=false:=by decide)
  (he:starEach (e::es) X.env=(false,eval e X.env)::starEach es X.env:=by rfl) (cS:(backTo pos (starEach es X.env)).any (·.1)=false:=by rfl):PE X (.Call (.Name x p) (e::es) [] pos) (Mg C sp E t):=by
 intro pins s σ H Q I h;refine oJ (mw I hg hm ?_ i5);refine HW (h₀:=X.base) I.ok.mod.iq kp (aA (ha pos pins s σ H _ I h) fun us s1 ⟨vs,H1,I1,r,bw,q1⟩=>⟨I1.bq,?_⟩) he cS;exact VE q fn F hr hb hx I1 r (by show us.length<=100;rw[<-r.length];exact bw) q1
end
end L2
namespace L2
open PySem PySem.W PySem.Calls PyProof.Rows
section
variable{α β:Type}{n:Nat}
def Pm (n:Nat) (p:Array Nat):Prop:=p.toList.Perm (List.range n)
theorem Pm.lt {p:Array Nat} (h:Pm n p) (hn:0 < n) (i:Nat):p.getD i 0 < n:=by
 rw[nG];cases e:p[i]? with
 |none=>exact hn
 |some x =>
  have:x∈p.toList:=Array.mem_def.mp (ahY e);exact nC.mp (h.mem_iff.mp this)
theorem Pm.rev {p:Array Nat} (h:Pm n p) (i j:Nat):Pm n (kas_rev p i j):=(ahZ.mp (mirror_perm p i j _)).trans h
theorem Pm.bub {p:Array Nat} (h:Pm n p) (i j:Nat):Pm n (bubble p i j):=(ahZ.mp (bubble_perm p i j)).trans h
theorem LU {γ:Type}{p:Array Nat}{vs:List γ} (d:γ) (h:Pm vs.length p):(p.toList.map fun i=>vs.getD i d).Perm vs:=by
 have h1:=List.Perm.map (fun i=>vs.getD i d) h;refine h1.trans (List.Perm.of_eq ?_)
 apply Rt
 ·simp
 ·intro i h1 h2
  simp[List.getD,h2]
end
theorem vI {α β:Type}{F:α->β->Prop}{l l':List α} (h:l'.Perm l):∀ {m:List β},Paired F l m -> ∃m',m'.Perm m/\Paired F l' m':=by
 induction h with
 |nil=>intro m p;exact⟨m,.refl _,p⟩
 |cons x _ ih =>
  intro m p;cases p with
  |cons q t =>
   obtain⟨m',e,r⟩:=ih t;exact⟨_::m',e.cons _,.cons q r⟩
 |swap x y l =>
  intro m p;cases p with
  |cons q t =>
   cases t with
   |cons q2 t=>exact⟨_,List.Perm.swap _ _ _,.cons q2 (.cons q t)⟩
 |trans _ _ Fj Fl =>
  intro m p;obtain⟨m2,e2,p2⟩:=Fl p;obtain⟨m1,e1,p1⟩:=Fj p2;exact⟨m1,e1.trans e2,p1⟩
section
variable{X:Cx}
theorem XS {P:Program}{w:World}{H:Hp}{h:Heap}{a:Addr}{o:HO} (x:bu P w H h a o):∃q,h.get? a=some q:=by
 cases o with
 |lst xs=>obtain⟨_,_,_,_,e⟩:=x;exact⟨_,e⟩
 |tup xs=>obtain⟨_,_,_,q,e,_⟩:=x;exact⟨q,e⟩
 |dK kvs=>obtain⟨_,_,_,_,o,_,_,e,_⟩:=x;exact⟨o,e⟩
 |dT kvs=>obtain⟨_,_,_,_,o,_,_,e,_⟩:=x;exact⟨o,e⟩
 |set S n=>obtain⟨o,_,_,_,e,_⟩:=x;exact⟨o,e⟩
 |ins C dx fs=>obtain⟨_,_,_,e,_⟩:=x;exact⟨_,e⟩
 |own y=>exact x
 |xd fs=>obtain⟨_,⟨o,_,_,e,_⟩,_⟩:=x;exact⟨o,e⟩
 |xu lo hi=>obtain⟨_,_,_,e⟩:=x;exact⟨_,e⟩
 |dE q u=>exact⟨q,x.1⟩
 |oh ps=>exact⟨_,x⟩
 |met f y=>exact⟨_,x⟩
 |ext φ=>exact x.2.1
theorem Inv.sorted {pins:List (Addr×Obj)}{σ:List (Option V)}{H:Hp}{s:Shared}{h':Heap}{m:Str->Option Value}{D:Addr}{ys:List V}{out:List Value}{c:Nat}{t':Nat} (I:Inv X pins σ H s) (hm:s.heap.Ns X.env.locals m) (i6:h'.Ns X.env.locals m)
  (k:∀b o,b≠X.env.locals->s.heap.get? b=some o->h'.get? b=some o) (hD:∀b o,s.heap.get? b=some o->b≠D) (new:h'.get? D=some (listOf out.toArray c)) (r:Vals ys out) (hz:ys.length<=sizeLine) :
  H D=none/\Inv X pins σ (upd H D (.lst ys)) { s with heap:=h',toks:=t' }:=by
 have there:∀b u,H b=some u -> ∃o,s.heap.get? b=some o:=fun b u e=>XS (I.ar b u e);have hn:H D=none:=by
  cases q:H D with
  |none=>rfl
  |some u =>
   obtain⟨o,e⟩:=there D u q;exact absurd rfl (hD D o e)
 have x8:∀b u,H b=some u->b≠D:=fun b u e z=>by rw[z,hn]at e;cases e
 have xx:∀b u,H b=some u->b≠X.env.locals:=fun b u e z=>by rw[z,I.free]at e;cases e
 refine⟨hn,I.step (g':=s.gens) (d':=s.drawn) (ch:= []) (fun _ z=>nomatch z) (fun b o hL _ _ e _=>k b o hL e) (fun b o hL _ _ e _=>⟨o.slots,k b o hL e⟩) (fun b o _ e n=>by rw[ah (hD b o e)];exact n) (fun b o _ e=>?_)
  (fun b xs e=>by rw[ah (x8 b _ e)];exact e) (fun b o u e=>by rw[ah (x8 b _ e)];exact e) (fun b ps e=>⟨#[],by rw[ah (x8 b _ e),e];simp⟩) (fun m' q=>?_) (fun b u e=>?_) I.bare⟩
 ·by_cases hb:b=X.env.locals
  ·obtain⟨o',es,ep,ho,_⟩:=i6
   exact⟨o',by rw[hb];exact ho⟩
  ·exact⟨o,k b o hb e⟩
 ·obtain⟨o,es,ep,ho,hd,hs,hf⟩:=hm
  obtain⟨o2,Fn,ep2,jY,hd2,AQ,rQ⟩:=q;rw[ho]at jY;cases jY;rw[hd]at hd2;cases hd2;have:m'=m:=funext fun x=>(rQ x).symm.trans (hf x);rw[this];exact i6
 ·by_cases hb:b=D
  ·subst hb
   rw[ag]at e;cases e;exact⟨hz,out,c,r,new⟩
  ·rw[ah hb]at e
   refine(I.ar b u e).ie (fun a v hc q=>k a v ?_ q) (fun a q=>by rw[ah (x8 a _ q)];exact q) fun a xs q=>by rw[ah (x8 a _ q)];exact q
   rcases hc with z|z
   ·rw[z];exact xx b u e
   ·exact xx a _ z
theorem UO {P:Program}{w:World}{B:Around}{E:Value->Shared->Prop}{s:Shared}{a:Addr}{us:List Value}{n:Nat}{R:PySem.Fin->Shared->Prop} (at_:s.heap.get? a=some (seqObj "list" us.toArray n)) (bw:us.length < 2)
  (k:∀c g,(∀b o,b≠a->s.heap.get? b=some o->g.get? b=some o)->g.get? a=some (listOf us.toArray c)->R (.done (.ret .none)) { s with heap:=g }):wpAny (model P w) B (Builtin.«list.sort» ⟨[.ref a],[]⟩) R E s:=by
 obtain⟨ep,gone⟩:∃ep,(s.heap.update a (Obj.mapSeq fun _=>(#[]:Array Value))).get? a=some (seqObj "list" #[] ep):=⟨_,get?_update_seq at_ fun _=>#[]⟩;have fits:us.toArray.size<=sizeLine:=by rw[aE,cQ];omega
 have small:us.toArray.size < 2:=by simpa using bw
 rw[list_sort_plain];refine ae (listItems_at at_ rfl (ae (listUpdate_at at_ rfl (ae (seqEpoch_at gone rfl (ae (Rv (ae (yV (cX ?_) (bG _))) (by simpa using fits))))) fits (bG _))))
 have two:∀b o,(s.heap.update a (Obj.mapSeq fun _=>(#[]:Array Value))).get? b=some o->(((s.heap.update a (Obj.mapSeq fun _=>(#[]:Array Value))).push (seqObj "tuple" us.toArray 0)).push (seqObj "list" #[] 0)).get? b=some o:=fun b o q=>aT _ (aT _ q)
 change wpAny (model P w) B _ R E { s with heap:=((s.heap.update a (Obj.mapSeq fun _=>(#[]:Array Value))).push (seqObj "tuple" us.toArray 0)).push (seqObj "list" #[] 0) }
 have zZ:=two _ _ gone;have others:∀b o,b≠a->s.heap.get? b=some o->(((s.heap.update a (Obj.mapSeq fun _=>(#[]:Array Value))).push (seqObj "tuple" us.toArray 0)).push (seqObj "list" #[] 0)).get? b=some o:=fun b o nb q=>two b o (((yW s.heap a _).2 b nb).trans q);generalize (((s.heap.update a (Obj.mapSeq fun _=>(#[]:Array Value))).push (seqObj "tuple" us.toArray 0)).push (seqObj "list" #[] 0))=g at zZ others ⊢
 dsimp only
 rw[aB small,aB small];refine ae (aj (ae (aj ?_)));have same:(arrOf (SortSt.mk' general' (us.toArray.zip us.toArray) #[] 7 none)).map (·.2)=us.toArray:=HZ.mp (by show((us.toArray.zip us.toArray).map (·.2)).toList=_;simp[List.map_snd_zip])
 dsimp only
 rw[same];refine ae (seqEpoch_at zZ rfl (ae (listUpdate_at zZ rfl ?_ (bG _) (Nat.le_succ_of_le fits))));obtain⟨c,back⟩:∃c,(g.update a (Obj.mapSeq fun _=>us.toArray)).get? a=some (seqObj "list" us.toArray c):=⟨_,get?_update_seq zZ fun _=>us.toArray⟩;simp only[bne_self_eq_false,j',oO];exact aj (k c _ (fun b o nb q=>((yW g a _).2 b nb).trans (others b o nb q)) back)
theorem JT {γ:Type}{f:γ->V}{g:γ->Value} (h:∀x,RelV (f x) (g x)):∀l:List γ,Vals (l.map f) (l.map g)
 |[]=>.nil
 |x::l=>.cons (h x) (JT h l)
end
end L2
namespace L2
open PySem PySem.W PySem.Spec PyProof.Rows
def uR (d:Addr) (o:Obj) (kvs:List (Key×V)):It:=⟨fun i H=>H d=some (.dE o (.dK kvs))/\i < kvs.length,fun i H v H'=>H'=H /\ ∃kv,kvs[i]? = some kv/\v=kV kv.1,fun i H=>H d=some (.dE o (.dK kvs))/\kvs.length<=i⟩
theorem JU {P:Program}{w:World}{K:Frag}{tg:Expr} (d it:Addr) (bx:d≠it) (o:Obj) (kvs:List (Key×V)) (vs:List (Key×Value)) (ep:Nat) (rk:KV kvs vs) (hD:∀h:Heap,h.get? d=some o->h.DictAt (bB P w) d vs ep) :
  Turn P w K tg (uR d o kvs) [it] it (fun i h=>i<=kvs.length/\h.IsKeyIter it d i vs.length ep) where
 mem:=by simp
 obj:=fun i h st b hb=>by
  obtain rfl:b=it:=by simpa using hb
  obtain⟨_,o,e,c,d⟩:=st;exact⟨o,e,fun v z=>by rw[d]at z;cases z⟩
 keep:=fun i h h' st k=>by
  obtain⟨l,o,e,r⟩:=st;exact⟨l,o,k it (by simp) _ e,r⟩
 item:=by
  intro X hP hw hK hc i pins s σ H E I hf st hg;subst hP hw hK;obtain⟨f0,f1,f2,f3,f4,f5⟩:=hf it (by simp)
  have hl:kvs.length=vs.length:=rk.length;have hd:=hD s.heap (show bu X.prog X.w H s.heap d (.dE o (.dK kvs)) from I.ar d _ hg.1).1;refine(Walks.dictKeys (knd:=bB X.prog X.w) (I.ok.hd hc) it d bx vs ep).item i s _ _ (by have:=hg.2;omega) ⟨st.2,hd⟩ fun v h' tk hv fE kk=>?_
  obtain⟨k,x,hx,hk⟩:=hv;have I1:Inv X pins σ H { s with heap:=h',toks:=tk }:=I.turned (fun b o hb e=>kk b o (by simpa using hb) e) f0 f1 f3 f4 f5
  obtain⟨ob,e,cl,dt⟩:=id fE.1;have dH:i < kvs.length:=hg.2;have rR:kvs[i]? = some kvs[i]:=bH dH;have ek:kvs[i].1=k:=by
   have h1:=eO (fun l=>l[i]?) rk.keys;simp only[gA,rR,hx]at h1;exact gy h1
  exact⟨_,rfl,wL (s:={ s with heap:=h',toks:=tk }) e cl dt (by decide) ⟨kV k,H,I1,Lk hk,⟨rfl,kvs[i],rR,by rw[ek]⟩,⟨hg.2,fE.1⟩,fun b hb=>(hf b hb).1⟩⟩
 done:=by
  intro X hP hw hK hc i pins s σ H E I hf st hg;subst hP hw hK;obtain⟨f0,f1,f2,f3,f4,f5⟩:=hf it (by simp)
  have ei:i=kvs.length:=Nat.le_antisymm st.1 hg.2;have hl:kvs.length=vs.length:=rk.length;have hd:=hD s.heap (show bu X.prog X.w H s.heap d (.dE o (.dK kvs)) from I.ar d _ hg.1).1;have jW:=st.2;rw[ei,hl]at jW;exact(Walks.dictKeys (knd:=bB X.prog X.w) (I.ok.hd hc) it d bx vs ep).done s _ _ ⟨jW,hd⟩ fun h' tk kk=>⟨rfl,I.turned (fun b o hb e=>kk b o (by simpa using hb) e) f0 f1 f3 f4 f5⟩
 self:=fun A i s Q E st h=>wpAny_pyIter_keyiter st.2 h
section
variable{X:Cx}{tg:Expr}
theorem Inv.freeze {pins:List (Addr×Obj)}{σ:List (Option V)}{H:Hp}{s:Shared}{d:Addr}{kvs:List (Key×V)}{o:Obj} (I:Inv X pins σ H s) (hd:H d=some (.dK kvs)) (ho:s.heap.get? d=some o):Inv X pins σ (upd H d (.dE o (.dK kvs))) s:=by
 have ok:bu X.prog X.w H s.heap d (.dK kvs):=I.ar d _ hd;have nd:∀ {b:Addr}{u:HO},H b=some u->u ≠ .dK kvs->b≠d:=fun e n z=>by rw[z,hd]at e;exact n (gy e).symm
 refine I.un (h':=s.heap) (t':=s.toks) ⟨fun b ob q _ _ _=>q,fun b ob q _ _ _=>⟨ob.slots,q⟩,fun b ob q n _=>?_,fun b ob q _=>⟨ob,q⟩,fun b xs e=>?_,fun b ob u e=>?_,fun b ps e=>⟨#[],?_⟩⟩ fun b u e=>?_
 ·rw[ah (fun z=>by rw[z,hd]at n;cases n)];exact n
 ·rw[ah (nd e (by intro z;cases z))];exact e
 ·rw[ah (nd e (by intro z;cases z))];exact e
 ·rw[ah (nd e (by intro z;cases z)),e];simp
 ·by_cases hb:b=d
  ·subst hb
   rw[ag]at e;cases e
   exact⟨ho,ok.ie (fun _ _ _ q=>q) (fun c q=>by rw[ah (nd q (by intro z;cases z))];exact q) fun c xs q=>by rw[ah (nd q (by intro z;cases z))];exact q⟩
  ·rw[ah hb]at e
   exact(I.ar b u e).ie (fun _ _ _ q=>q) (fun c q=>by rw[ah (nd q (by intro z;cases z))];exact q) fun c xs q=>by rw[ah (nd q (by intro z;cases z))];exact q
def YJ (te:TE):TI:=fun σ H R=>te σ H fun v H1=>∃d kvs,v = .ref d/\((H1 d=some (.dK kvs) /\ ∀o,R (uR d o kvs) (upd H1 d (.dE o (.dK kvs)))) \/ ∃o,H1 d=some (.dE o (.dK kvs))/\R (uR d o kvs) H1)
theorem WC {e:Expr}{te:TE} (he:PE X e te):PI X tg e (YJ te):=by
 intro pins s σ H R I h;refine aA (he pins s σ H _ I h) fun v s1 ⟨y,H1,I1,r1,d,kvs,ey,q⟩=>?_;subst ey;cases r1
 have rd:Rd H1 d (.dK kvs):=by
  rcases q with⟨e,_⟩|⟨o,e,_⟩
  ·exact .inl e
  ·exact .inr ⟨o,e⟩
 obtain⟨hz,hs,vs,rk,hdo⟩:=qT I1.ar rd;obtain⟨o,es,ep,ho,hx,uO,hk,hp,hn⟩:=id hdo;refine wpAny_pyIter_dict (knd:=bB X.prog X.w) (kvs:=vs) (ep:=ep) hs ⟨o,es,ho,hx,uO,hk,hp,hn⟩ ?_;have bx:d≠s1.heap.objs.size:=bj (aR ho);have hD:∀h:Heap,h.get? d=some o->h.DictAt (bB X.prog X.w) d vs ep:=fun h e=>⟨o,es,e,hx,uO,hk,hp,hn⟩;have I2:Inv X pins σ H1 { s1 with heap:=s1.heap.push { cls:= .type "dict_keyiterator",data:= .fields #[.ref d,.int 0 0,.int vs.length 0,.int ep 0] } }:=I1.kept (t':=s1.toks) fun b ob z=>aT _ z;have st:0<=kvs.length/\Heap.IsKeyIter (s1.heap.push { cls:= .type "dict_keyiterator",data:= .fields #[.ref d,.int 0 0,.int vs.length 0,.int ep 0] }) s1.heap.objs.size d 0 vs.length ep:=⟨bG _,_,bZ _ rfl,rfl,rfl⟩;have m9:H1 s1.heap.objs.size=none:=I1.ar.fresh (aO _);rcases q with⟨e,q⟩|⟨o',e,q⟩
 ·refine⟨s1.heap.objs.size,[s1.heap.objs.size],_,_,_,rfl,I2.freeze e (aT _ ho),JU d s1.heap.objs.size bx o kvs vs ep rk hD,st,fun b hb=>?_,q o⟩
  obtain rfl:b=s1.heap.objs.size:=by simpa using hb
  exact I1.kq (aO _) (by rw[ah (aQ bx)];exact m9)
 ·obtain rfl:o'=o:=by
   have:=(show bu X.prog X.w H1 s1.heap d (.dE o' (.dK kvs)) from I1.ar d _ e).1;rw[ho]at this;exact(gy this).symm
  refine⟨s1.heap.objs.size,[s1.heap.objs.size],_,_,H1,rfl,I2,JU d s1.heap.objs.size bx o' kvs vs ep rk hD,st,fun b hb=>?_,q⟩;obtain rfl:b=s1.heap.objs.size:=by simpa using hb
  exact I1.kq (aO _) m9
theorem VF {d:Addr}{o:Obj}{kvs:List (Key×V)}{g:TG}{tb:TS}{D:Ends}{σ:St}{H:Hp} (Pv:Nat->St->Hp->Prop) (h0:Pv 0 σ H) (hl:∀i σ H,i<=kvs.length->Pv i σ H->H d=some (.dE o (.dK kvs)))
  (hs:∀i kv σ H,kvs[i]? = some kv->Pv i σ H->g (kV kv.1) σ H fun ir H2=>tb { D with nx:=Pv (i+1),ct:=Pv (i+1),bk:=D.nx } ir H2) (hd:∀σ H,Pv kvs.length σ H->D.nx σ H) :
  ∃W:Nat->Nat->St->Hp->Prop,(∃m,W 0 m σ H) /\ ∀i m σ H,W i m σ H ->
   ((uR d o kvs).stop i H/\D.nx σ H)\/((uR d o kvs).go i H /\ ∃N:St->Hp->Prop,(∀aD H',N aD H' -> ∃m',m' < m/\W (i+1) m' aD H') /\ ∀x H',(uR d o kvs).pK i H x H'->g x σ H' fun ir H2=>tb { D with nx:=N,ct:=N,bk:=D.nx } ir H2):=by
 refine⟨fun i m σ H=>m=kvs.length - i/\i<=kvs.length/\Pv i σ H,⟨kvs.length,by simp,bG _,h0⟩,?_⟩
 rintro i m σ H ⟨rfl,hi,p⟩;have q:=hl i σ H hi p
 by_cases aP:i < kvs.length
 ·refine .inr ⟨⟨q,aP⟩,Pv (i+1),fun aD H' p'=>⟨kvs.length - (i+1),by omega,rfl,aP,p'⟩,fun x H' y=>?_⟩
  obtain⟨e,kv,jC,ex⟩:=y;subst e;subst ex;exact hs i kv σ _ jC p
 ·have e:i=kvs.length:=by omega
  subst e;exact .inl ⟨⟨q,aO _⟩,hd σ H p⟩
end
def rS (a b:Str):Prop:=a.cps.toList<=b.cps.toList
theorem Kw {a b:Str} (h1:rS a b) (h2:rS b a):a=b:=by
 have e:a.cps.toList=b.cps.toList:=List.le_antisymm h1 h2;cases a;cases b
 exact eO Str.mk (HZ.mp e)
theorem Jq:∀ {r:List Str}{p:Str},risingS p r=true->(∀x∈r,rS p x)/\r.Pairwise rS
 |[],p,_=>⟨by simp,.nil⟩
 |x::r,p,h=>by
  obtain⟨h1,h2⟩:=jI.mp (show(!ltCps x.cps.toList p.cps.toList && risingS x r)=true from h);obtain⟨h3,h4⟩:=Jq h2;have hp:rS p x:=by
   rw[ltCps_eq]at h1;have : ¬ (x.cps.toList < p.cps.toList):=by simpa using h1
   exact this
  refine⟨fun y hy=>?_,.cons h3 h4⟩;rcases a9.mp hy with rfl|hy
  ·exact hp
  ·exact List.le_trans hp (h3 y hy)
theorem TR {l:List Str} (h:sortedS l=true):l.Pairwise rS:=by
 cases l with
 |nil=>exact .nil
 |cons x r=>obtain⟨h1,h2⟩:=Jq (show risingS x r=true from h);exact .cons h1 h2
theorem Cq:∀ {us:List Value}{ss:List Str},StrsAre us ss->Vals (ss.map V.str) us
 |_,_,.nil=>.nil
 |_,_,.cons _ t r=>.cons ⟨t,rfl⟩ (Cq r)
end L2
namespace HS
open PySem PySem.Spec PyProof.Rows
theorem WD (t:SetTable) (es:Array (Int×Value)) (z:Int) (x:Value):(layNew t es z x).2.1.led=t.led:=by
 unfold layNew;split
 ·dsimp only
  unfold SetTable.orStandIn;split <;> rfl
 ·rfl
theorem TU {t u:SetTable}{zs:Array Int}{n:Nat}{ord:Array Nat} (e:t.relaid zs n=some (u,ord)):u.led=t.led/\u.plain=t.plain:=by
 unfold SetTable.relaid SetTable.laid at e;cases c:SetTable.layClean (SetTable.sizeAbove n - 1) zs with
 |none=>rw[c]at e;cases e
 |some ow =>
  rw[c]at e;have e2:=gy e;have e3:=eO Prod.fst e2
  dsimp only at e3
  rw[<-e3];exact⟨rfl,rfl⟩
theorem Tg (t:SetTable) (es:Array (Int×Value)) (n:Nat):(relayAll t es n).2.1.led=t.led/\(t.plain=false->(relayAll t es n).2.1.plain=false):=by
 unfold relayAll;split
 ·rename_i u ord e
  obtain⟨h1,h2⟩:=TU e
  dsimp only
  split
  ·exact⟨h1,fun z=>h2.trans z⟩
  ·exact⟨rfl,fun _=>rfl⟩
 ·exact⟨rfl,fun _=>rfl⟩
def fu (P:Program) (w:World) (h:Heap) (a:Addr) (xs:List Str):Prop:=
 ∃o es ep t,h.get? a=some o/\o.ExactSet/\o.data = .set es ep t/\ElemsOf (strKind P w) es.toList/\(∀k,k∈xs ↔ ∃e∈es.toList,(strKind P w).is k e.2=true) /\
  es.size < scanBound/\t.fits es.size=true/\es.size=xs.length/\t.led=(!w.params.followText "set-order")/\(es.size≠0->t.plain=false)
theorem fu.keep {P:Program}{w:World}{h h':Heap}{a:Addr}{xs:List Str} (x:fu P w h a xs) (k:∀o,h.get? a=some o->h'.get? a=some o):fu P w h' a xs:=let ⟨o,es,ep,t,e,r⟩:=x;⟨o,es,ep,t,k o e,r⟩
theorem fu.lt {P:Program}{w:World}{h:Heap}{a:Addr}{xs:List Str} (x:fu P w h a xs):a < h.objs.size:=let ⟨_,_,_,_,e,_⟩:=x;aR e
theorem fu.typeIs {P:Program}{w:World}{s:Shared}{a:Addr}{xs:List Str} (x:fu P w s.heap a xs):s.TypeIs (.ref a) "set" :=let ⟨o,_,_,_,e,c,_⟩:=x;⟨o,e,c.1⟩
theorem VG {P:Program}{w:World}{h:Heap}{a:Addr} (e:h.get? a=some { cls:= .type "set",dict:=none,data:= .set #[] 0 (.fresh 0 0 (!w.params.followText "set-order")) }):fu P w h a []:=
 ⟨_,#[],0,_,e,⟨rfl,rfl,rfl⟩,rfl,fun z hz=>(by simp at hz),fun k=>(by simp),by decide,by rfl,rfl,rfl,fun z=>absurd rfl z⟩
def iX (xs:List Str) (k:Str):List Str:=if k∈xs then xs else xs ++ [k]
section
variable{P:Program}{w:World}{A:Around}{E:Value->Shared->Prop}{s:Shared}{a:Addr}{xs:List Str}
theorem Kx {h:Heap}{o:Obj}{es gV:Array (Int×Value)}{ep:Nat}{t t':SetTable}{ys:List Str} (ho:h.get? a=some o) (hx:o.ExactSet) (hd:o.data = .set es ep t) (nc:ElemsOf (strKind P w) gV.toList)
  (hm:∀k,k∈ys ↔ ∃e∈gV.toList,(strKind P w).is k e.2=true) (hb:gV.size < scanBound) (hf:t'.fits gV.size=true) (hn:gV.size=ys.length) (hl:t'.led=(!w.params.followText "set-order")) (hp:t'.plain=false) :
  (h.update a (Obj.putSet gV t')).get? a=some { o with data:= .set gV (ep+1) t' }/\fu P w (h.update a (Obj.putSet gV t')) a ys:=by
 have hg:(h.update a (Obj.putSet gV t')).get? a=some { o with data:= .set gV (ep+1) t' }:=by
  have z:=lW (Obj.putSet gV t') ho (by rw[putSet_of gV t' hd];rfl)
  rw[putSet_of gV t' hd]at z;exact z
 exact⟨hg,_,gV,ep+1,t',hg,hx,rfl,nc,hm,hb,hf,hn,hl,fun _=>hp⟩
theorem VH {k:Str}{tk:Tok}{Q:Bool->Shared->Prop} (hS:fu P w s.heap a xs) (room:xs.length+1 < scanBound) (h:∀h',Heap.SameBut a s.heap h'->fu P w h' a (iX xs k) -> ∀b,Q b { s with heap:=h' }) :
  wpAny (model P w) A (setAddHashed a (.str k tk) (hashStr w k)) Q E s:=by
 obtain⟨o,es,ep,t,ho,hex,hd,nc,iY,hb,hf,hn,xl,cS⟩:=hS;have ju:(strKind P w).is k (.str k tk)=true:=by show Value.isStrOf k (.str k tk)=true;simp[Value.isStrOf]
 have Fo:(Value.str k tk).scannable=true:=rfl;have aiz:es.size+1 < scanBound:=by omega
 unfold setAddHashed setAddHashedIn;refine cX (ae (k7 ho hd hf ?_));dsimp only;rw[byScan_of (knd:=strKind P w) Fo hb nc,aB rfl];refine ae ?_;unfold setAddByScan;refine ae (lU (ae (wpAny_setScan_of (knd:=strKind P w) (k:=k) ju ho hd hf nc ?_)));cases hr:List.findIdx? (fun e=>(strKind P w).is k e.2) es.toList with
 |some j =>
  obtain⟨hj,AR,_⟩:=List.findIdx?_eq_some_iff_getElem.mp hr;have hk:k∈xs:=(iY k).mpr ⟨es.toList[j],jf hj,AR⟩;refine aj (aj ?_);have e0:s={ s with heap:=s.heap }:=by cases s;rfl
  rw[e0];refine h s.heap (Heap.SameBut.refl a s.heap) ?_ _;unfold iX;rw[aB hk];exact⟨o,es,ep,t,ho,hex,hd,nc,iY,hb,hf,hn,xl,cS⟩
 |none =>
  dsimp only
  have hk:k ∉ xs:=fun z=>by
   obtain⟨e,he,hp⟩:=(iY k).mp z;have:=List.findIdx?_eq_none_iff.mp hr e he;rw[hp]at this;cases this
  have gw:∀ (b:Bool) {aY:Shared}{Q':Unit->Shared->Prop},Q' () aY->wpAny (model P w) A (match b with|true=>rule "set.scan.the-table-gave-way" | false=>pure ()) Q' E aY:=fun b aY Q' hq=>by
   cases b
   ·exact aj hq
   ·exact lU hq
  have ff:=layNew_perm t es ((strKind P w).hash k) (.str k tk);have z0:=layNew_fits t es ((strKind P w).hash k) (.str k tk);have xh:=WD t es ((strKind P w).hash k) (.str k tk);generalize hL:layNew t es (hashStr w k) (.str k tk)=L;rw[show(strKind P w).hash k=hashStr w k from rfl,hL]at ff z0 xh;obtain⟨fJ,t1,wd,aiF⟩:=L
  dsimp only at ff z0 xh ⊢
  rw[Array.toList_push]at ff;have MX:ElemsOf (strKind P w) fJ.toList:=(nc.push (k:=k) ju Fo).perm ff;have aiG:fJ.size=es.size+1:=by rw[<-jG,ff.length_eq,de,jG];rfl
  have Mk:∀k',k'∈iX xs k ↔ ∃e∈fJ.toList,(strKind P w).is k' e.2=true:=fun k'=>by
   unfold iX;rw[au hk,fb,gn,iY k']
   constructor
   ·rintro(⟨e,he,hp⟩|rfl)
    ·exact⟨e,ff.mem_iff.mpr (lR _ he),hp⟩
    ·exact⟨_,ff.mem_iff.mpr (gk _ (gn.mpr rfl)),ju⟩
   ·rintro⟨e,he,hp⟩
    rcases fb.mp (ff.mem_iff.mp he) with he|he
    ·exact .inl ⟨e,he,hp⟩
    ·rw[gn]at he;subst he
     exact .inr ((strKind P w).inj _ k' k hp ju)
  have hln:fJ.size=(iX xs k).length:=by unfold iX;rw[au hk,de,iN];omega
  have gL:fJ.size < scanBound:=by omega
  refine ae (gw _ ?_);have tail:∀t2:SetTable,t2.fits fJ.size=true->t2.led=t.led->t2.plain=false->wpAny (model P w) A (do
    storeSet a fJ t2
    if (!wd && t2.tooFull)=true then do
      let r:=relayAll t2 fJ (SetTable.grown fJ.size)
      (match r.2.2 with|true=>rule "set.scan.the-table-gave-way" | false=>pure ())
      storeSet a r.1 r.2.1
      pure (some true)
     else pure (some true)) (fun r s'=>wpAny (model P w) A (match r with|some added=>pure added|none=>setAddHashedIn a (.str k tk) (hashStr w k) 99999) Q E s') E s:=by
   intro t2 rQ dk ix;obtain⟨AG,hS1⟩:=Kx (P:=P) (w:=w) ho hex hd MX Mk gL rQ hln (dk.trans xl) ix;have Of:=yW s.heap a (Obj.putSet fJ t2);refine ae (wpAny_storeSet_of ho hd ?_ (Ik gL));split
   ·have q1:=relayAll_perm t2 fJ (SetTable.grown fJ.size)
    have q2:=relayAll_fits t2 fJ (SetTable.grown fJ.size);have q3:=Tg t2 fJ (SetTable.grown fJ.size)
    dsimp only
    generalize relayAll t2 fJ (SetTable.grown fJ.size)=R at q1 q2 q3 ⊢;obtain⟨Fn,t3,g2⟩:=R
    dsimp only at q1 q2 q3 ⊢
    have sz2:Fn.size=fJ.size:=by rw[<-jG,q1.length_eq,jG]
    have hm2:∀k',k'∈iX xs k ↔ ∃e∈Fn.toList,(strKind P w).is k' e.2=true:=fun k'=>(Mk k').trans ⟨fun⟨e,he,q⟩=>⟨e,q1.mem_iff.mpr he,q⟩,fun⟨e,he,q⟩=>⟨e,q1.mem_iff.mp he,q⟩⟩;obtain⟨_,hS2⟩:=Kx (P:=P) (w:=w) AG hex rfl (MX.perm q1) hm2 (by omega) q2 (by omega) (q3.1.trans (dk.trans xl)) (q3.2 ix)
    refine ae (gw _ (ae (wpAny_storeSet_of AG rfl ?_ (Ik (by omega)))))
    exact aj (aj (h _ (Of.trans (yW _ a _)) hS2 _))
   ·exact aj (aj (h _ Of hS1 _))
  by_cases pV:t1.plain=true
  ·rw[aB pV]
   refine ae ?_;rw[hashByValue_scannable 8 Fo];refine aj ?_;show wpAny (model P w) A (do
    storeSet a fJ { t1 with plain:=false }
    _) _ E s
   exact tail { t1 with plain:=false } (SetTable.fits_plain_off z0) xh rfl
  ·rw[au pV]
   refine ae (aj ?_);show wpAny (model P w) A (do
    storeSet a fJ t1
    _) _ E s
   exact tail t1 z0 xh (by simpa using pV)
end
def jU (val:Nat->Str) (i:Nat):List Str:=((List.range i).map val).foldl iX []
theorem zm (val:Nat->Str) (i:Nat):jU val (i+1)=iX (jU val i) (val i):=by
 unfold jU;rw[List.range_succ,bc,List.foldl_append];rfl
theorem VI (xs:List Str) (k:Str):(iX xs k).length<=xs.length+1:=by
 unfold iX;split
 ·omega
 ·rw[de,iN];omega
theorem WE {xs:List Str} (h:xs.Nodup) (k:Str):(iX xs k).Nodup:=by
 unfold iX;split
 ·exact h
 ·rename_i hn
  rw[jg];exact⟨h,by simp,fun a ha b hb e=>hn (by rw[<-(gn.mp hb),<-e];exact ha)⟩
theorem VJ {xs:List Str}{k y:Str}:y∈iX xs k ↔ y∈xs\/y=k:=by
 unfold iX;split
 ·rename_i h
  exact⟨.inl,fun z=>z.elim id fun e=>e ▸ h⟩
 ·rw[fb,gn]
theorem Ky (val:Nat->Str):∀i,(jU val i).length<=i
 |0=>aO _
 |i+1=>by rw[zm];have:=VI (jU val i) (val i);have:=Ky val i;omega
theorem Lo (val:Nat->Str):∀i,(jU val i).Nodup
 |0=>lY
 |i+1=>by rw[zm];exact WE (Lo val i) _
theorem Kz (val:Nat->Str) (y:Str):∀i,y∈jU val i ↔ ∃j,j < i/\val j=y
 |0=>⟨fun h=>(by cases h),fun⟨_,h,_⟩=>absurd h (yX _)⟩
 |i+1=>by
  rw[zm,VJ,Kz val y i]
  constructor
  ·rintro(⟨j,h,e⟩|e)
   ·exact⟨j,by omega,e⟩
   ·exact⟨i,by omega,e.symm⟩
  ·rintro⟨j,h,e⟩
   by_cases c:j=i
   ·exact .inr (by rw[<-e,c])
   ·exact .inl ⟨j,by omega,e⟩
section
variable{P:Program}{w:World}{A:Around}{R:Result->Shared->Prop}{I:Addr}{fp wr:List Addr}{G:Array GenState->Array GenState->Prop}{n:Nat}{Pv:Nat->Value->Prop}{St:Nat->Shared->Prop}
theorem VL (W:WalksS P w A.in1 I fp wr G n Pv St) (S:Addr) (hS:S ∉ fp) (val:Nat->Str) (hv:∀i v,Pv i v -> ∃t,v = .str (val i) t) (hb:n+1 < scanBound) :
  ∀ (k i:Nat) (s:Shared),n - i=k->i<=n->St i s->fu P w s.heap S (jU val i)->(∀s',Moved (S::wr) G s s'->fu P w s'.heap S (jU val n)->R (.ok (.ret .none)) s') ->
   codeAny (model P w) A (.builtin "set.update.loop" ⟨[.ref S,.ref I],[]⟩) R s:=by
 have hw:S ∉ wr:=fun z=>hS (W.sub _ z);have up:∀b∈wr,b∈S::wr:=fun b z=>bJ _ z;intro k
 induction k with
 |zero =>
  intro i s hk hi st x q;obtain rfl:i=n:=by omega
  refine gQ F.entry_set_update_loop ?_;rw[je Rw _];show wpAny _ A.in1 (pyNext (.ref I) >>= _) _ _ s;refine ae (W.done s _ _ st fun s' m=>?_);show wpAny _ A.in1 (ret Value.none) _ _ s';exact aj (q s' (m.mono up) (x.keep fun o e=>m.heap S o hw e))
 |succ k ih =>
  intro i s hk hi st x q;have lt:i < n:=by omega
  refine gQ F.entry_set_update_loop ?_;rw[je Rw _];show wpAny _ A.in1 (pyNext (.ref I) >>= _) _ _ s;refine ae (W.item i s _ _ lt st fun v s' hP fE m=>?_);obtain⟨t,rfl⟩:=hv i v hP;have x':fu P w s'.heap S (jU val i):=x.keep fun o e=>m.heap S o hw e;show wpAny _ A.in1 (holding [Value.str (val i) t] (setAdd S (.str (val i) t)) >>= _) _ _ s';refine ae (cX ?_);unfold setAdd;have ju:(strKind P w).is (val i) (.str (val i) t)=true:=by show Value.isStrOf (val i) (.str (val i) t)=true;simp[Value.isStrOf]
  refine cX (ae ((strKind P w).pyHash (k:=val i) ju ?_));have room:(jU val i).length+1 < scanBound:=by have:=Ky val i;omega
  refine VH (s:={ s' with toks:=s'.toks+1 }) x' room fun h' sb x2 b=>?_;rw[<-zm]at x2;refine aj ⟨kc Rw _,ih (i+1) _ (by omega) lt (W.frame _ s' _ _ fE (oN _) fun c hc o e=>?_) x2 fun lG m'' x''=>?_⟩
  ·rw[sb.2 c (fun z:c=S=>hS (by rw[<-z];exact hc))];exact e
  ·refine q lG (Moved.trans W.gtrans ((m.mono up).then_heap (oN _) fun c o hc e=>?_) m'') x''
   rw[sb.2 c (fun z:c=S=>hc (by rw[z];exact aZ))];exact e
end
section
variable{P:Program}{w:World}{A:Around}{E:Value->Shared->Prop}{s:Shared}
abbrev n8 (w:World):Obj:={ cls:= .type "set",dict:=none,data:= .set #[] 0 (.fresh 0 0 (!w.params.followText "set-order")) }
theorem Th (a:Value) {Q₁:Value->Shared->Prop} (h:Q₁ (.ref s.heap.objs.size) { s with heap:=s.heap.push (n8 w) }) :
  codeAny (model P w) A (.call (.builtin "set.__new__") ⟨[.type "set",a],[]⟩) (wants Q₁ E) s:=by
 refine Q5 ?_;show wpAny _ A.in1 (do checkBuiltinCall "set.__new__" ⟨[.type "set",a],[]⟩;again (.builtin "set.__new__" ⟨[.type "set",a],[]⟩)) _ _ s;refine ae (Il (F.newCall_set_1 a) (aj ⟨kc F.plain_set_new _,gQ F.entry_set_new ?_⟩));rw[je F.plain_set_new _];unfold Builtin.«set.__new__» Builtin.Frozenset.newClass;have ss:=sub_set_self;obtain⟨hp,g,d,tk,os⟩:=s;dsimp only
 wp_walk
 refine oR (aj ?_);dsimp only;simp only[newObj];refine ae (wpAny_alloc (aj ?_));exact aj h
structure Src (P:Program) (w:World) (T:String) (l:Addr) (ol:Obj) (n:Nat) (Pv:Nat->Value->Prop):Prop where
 cls:ol.cls = .type T
 ns:isSubtype (.type T) (.type "set")=pure false
 nf:isSubtype (.type T) (.type "frozenset")=pure false
 nd:(Value.type T==Value.type "dict")=false
 iter:∀ (A:Around) (s:Shared),A.handled=none->s.heap.get? l=some ol -> ∃ (oI:Obj) (St:Nat->Heap->Prop),
  (∀ (E:Value->Shared->Prop) (Q:Value->Shared->Prop),Q (.ref s.heap.objs.size) { s with heap:=s.heap.push oI }->wpAny (model P w) A (pyIter (.ref l)) Q E s) /\
  Walks P w A s.heap.objs.size [s.heap.objs.size,l] [s.heap.objs.size] n Pv St/\St 0 (s.heap.push oI)
theorem UP {T:String}{l:Addr}{ol:Obj}{n:Nat}{Pv:Nat->Value->Prop}{val:Nat->Str}{Q:Value->Shared->Prop} (hh:A.handled=none) (C:Src P w T l ol n Pv) (hl:s.heap.get? l=some ol) (hv:∀i v,Pv i v -> ∃t,v = .str (val i) t) (hb:n+1 < scanBound)
  (h:∀ (h':Heap) (tk:Nat),fu P w h' s.heap.objs.size (jU val n)->(∀b o,b < s.heap.objs.size->s.heap.get? b=some o->h'.get? b=some o)->Q (.ref s.heap.objs.size) { s with heap:=h',toks:=tk }) :
  wpAny (model P w) A (call (.type "set") [.ref l]) Q E s:=by
 obtain⟨c0,tl0,aiH⟩:=sj.mro;have aiA:=sj.made;have aiI:=sj.sub;refine oH (Q5 ?_);show wpAny _ _ (callAny (.type "set") _) _ _ _;refine aj ⟨HQ _ (by decide +kernel),gQ F.entry_type_call ?_⟩;rw[Around.under_plain (weight_type_call_type "set" [.ref l] []) rfl]
 have f1:=sj.notType;have f2:=sj.canCreate;have f3:=F.typeCall_set_1 (.ref l)
 repeat (any_goals (first|assumption|wp_step))
 refine qq (Th (.ref l) (E:=E) (Q₁:=fun obj aY=>obj = .ref s.heap.objs.size/\aY={ s with heap:=s.heap.push (n8 w) }) ⟨rfl,rfl⟩) fun r aY hr=>?_;cases r with
 |error e=>exact hr
 |ok fl =>
  cases fl with
  |ret obj =>
   obtain⟨rfl,rfl⟩:=hr;have gS:(s.heap.push (n8 w)).get? s.heap.objs.size=some (n8 w):=bZ _ rfl;have tS:Shared.TypeIs { s with heap:=s.heap.push (n8 w) } (.ref s.heap.objs.size) "set" :=⟨_,gS,rfl⟩;have i1:=sj.init.lookup;have i2:=sj.init.bind (.ref s.heap.objs.size)
   repeat (any_goals (first|assumption|wp_step))
   refine qq (HR (R:=wants (fun r lz=>r = .none /\ ∃h' tk,lz={ s with heap:=h',toks:=tk }/\fu P w h' s.heap.objs.size (jU val n)/\(∀b o,b < s.heap.objs.size->s.heap.get? b=some o->h'.get? b=some o)) E) sj.init.plain F.entry_set_init (check_set_init_1 tS ?_)) fun aah lz DJ=>?_
   ·have cy:(s.heap.push (n8 w)).get? l=some ol:=aT _ hl
    obtain⟨aai,aiB,aiC,aiv⟩:=ol;have aaj:aai = .type T:=C.cls;subst aaj;have ns:=C.ns;have nf:=C.nf;have nd:=C.nd;unfold Builtin.«set.__init__» noKeywords Builtin.Frozenset.updateFrom;generalize hPI:pyIter=PI
    wp_walk
    subst hPI;obtain⟨oI,St,it,W,st⟩:=C.iter A.in1.in1.in1 { s with heap:=s.heap.push (n8 w) } (by simp[hh]) cy
    refine wpAny_of_in1 (it _ _ ?_);refine ae (yU ?_);have lS:l < s.heap.objs.size:=aR hl;have nS:s.heap.objs.size ∉ [(s.heap.push (n8 w)).objs.size,l]:=by
     rw[jH];simp only[a9,gn,lZ,md,not_or];exact⟨bj (BP _),lV lS⟩
    refine VL W.toS s.heap.objs.size nS val hv hb (n - 0) 0 _ (by omega) (bG _) st (VG (aT _ gS)) ?_
    intro s' m x';obtain⟨h',g',d',j0,xB⟩:=s';have e1:g'=s.gens:=m.gens;have e2:d'=s.drawn:=m.drawn;have e3:xB=s.os:=m.os;subst e1;subst e2;subst e3;show wpAny _ _ _ _ _ _;refine aj ?_;show wpAny _ _ (ret Value.none) _ _ _;refine aj ⟨rfl,h',j0,rfl,x',fun b o hb e=>?_⟩;have b1:b≠s.heap.objs.size:=bj hb;have b2:b≠(s.heap.push (n8 w)).objs.size:=by rw[jH];exact bj (sk hb)
    exact m.heap b o (by simp only[a9,gn,lZ,md,not_or];exact⟨b1,b2⟩) (aT _ (aT _ e))
   ·cases aah with
    |error e=>exact DJ
    |ok YK =>
     cases YK with
     |ret r =>
      obtain⟨rfl,h',tk,rfl,x',k'⟩:=DJ
      repeat (any_goals (first|assumption|wp_step))
      exact h _ _ x' k'
     |_=>exact DJ.elim
  |_=>exact hr.elim
theorem src_list {l:Addr}{items:Array Value}{ol:Obj} (cl:ol.cls = .type "list") (dt:∃n,ol.data = .seq items n):Src P w "list" l ol items.size (fun i v=>items[i]? = some v) where
 cls:=cl
 ns:=F.sub_list_set
 nf:=F.sub_list_frozenset
 nd:=by decide
 iter:=fun A s hh hl=>by
  have il:s.heap.IsList l items:=⟨ol,hl,cl,dt⟩;have lt:=aR hl;exact⟨_,_,fun E Q q=>yL il q,Walks.list hh _ l (bj lt) items,⟨_,bZ _ rfl,rfl,rfl⟩,il.push _⟩
theorem WG {l:Addr}{items:Array Value}{ol:Obj} (cl:ol.cls = .type "tuple") (dt:∃n,ol.data = .seq items n):Src P w "tuple" l ol items.size (fun i v=>items[i]? = some v) where
 cls:=cl
 ns:=F.sub_tuple_set
 nf:=F.sub_tuple_frozenset
 nd:=by decide
 iter:=fun A s hh hl=>by
  have il:s.heap.IsTuple l items:=⟨ol,hl,cl,dt⟩;have lt:=aR hl;exact⟨_,_,fun E Q q=>wpAny_pyIter_tuple il q,Walks.tuple hh _ l (bj lt) items,⟨_,bZ _ rfl,rfl,rfl⟩,il.push _⟩
end
theorem sD:Slot "set_iterator" "__next__" "set_iterator.__next__" :=
 Slot.of (owner:= "set_iterator") (n:= "__next__") (by rw[BL,BM];kernel_rfl) (by decide +kernel) (by decide +kernel) (by decide +kernel) (by first|exact .inl (by decide +kernel)|exact .inr (by decide +kernel)) (by rw[Rx];kernel_rfl)
theorem Su:entryFor table "set_iterator.__next__" = some Builtin.«set_iterator.__next__» :=entryFor_of_tree (by kernel_rfl)
theorem KA:Manifest.owners.lookup (String.ofList "rotareti_tes".toList.reverse)=some Manifest.sig_set_iterator:=by kernel_rfl
theorem SK (a:Value):argsOk "set_iterator.__next__" ⟨[a],[]⟩:=by
 unfold argsOk;rw[signature?_of (id:= "set_iterator.__next__") (n:= ['_','_','t','x','e','n','_','_']) (o:= "rotareti_tes".toList) (by kernel_rfl) KA];kernel_rfl
theorem ze:Slot "set_iterator" "__iter__" "set_iterator.__iter__" :=
 Slot.of (owner:= "set_iterator") (n:= "__iter__") (by rw[BL,BM];kernel_rfl) (by decide +kernel) (by decide +kernel) (by decide +kernel) (by first|exact .inl (by decide +kernel)|exact .inr (by decide +kernel)) (by rw[Rx];kernel_rfl)
theorem IP:entryFor table "set_iterator.__iter__" = some Builtin.«dict_keyiterator.__iter__» :=Ri (id':= "dict_keyiterator.__iter__") (by kernel_rfl) rfl (by decide +kernel) (by kernel_rfl)
theorem IT (a:Value):argsOk "set_iterator.__iter__" ⟨[a],[]⟩:=by
 unfold argsOk;rw[signature?_of (id:= "set_iterator.__iter__") (n:= ['_','_','r','e','t','i','_','_']) (o:= "rotareti_tes".toList) (by kernel_rfl) KA];kernel_rfl
theorem SM:entryFor table "set.__iter__" = some Builtin.«frozenset.__iter__» :=Ri (id':= "frozenset.__iter__") (by kernel_rfl) rfl (by decide +kernel) (by kernel_rfl)
abbrev lK (first:Value) (i:Nat) (a:Addr) (n ep:Nat):Obj:={ cls:= .type "set_iterator",dict:=none,data:= .fields #[first,.int i 0,.ref a,.int n 0,.int ep 0],slots:= #[] }
section
variable{P:Program}{w:World}{A:Around}{E:Value->Shared->Prop}{s:Shared}{I a:Addr}{o:Obj}{es:Array (Int×Value)}{ep:Nat}{t:SetTable}
theorem zw {first:Value}{i n:Nat}{Q:Option Value->Shared->Prop} (hit:s.heap.get? I=some (lK first i a n ep)) (ho:s.heap.get? a=some o) (hd:o.data = .set es ep t) (hf:t.fits es.size=true) (hn:es.size=n)
  (body:wpAny (model P w) A.in1 (do
   if let .int slot _:=first then
    match <- setNext a slot.toNat ((i:Int)).toNat ((ep:Int)).toNat with
    |some (x,next) =>
     setField (.ref I) 0 (rawInt next)
     setField (.ref I) 1 (rawInt ((i:Int)+1))
     ret x
    |none=>setField (.ref I) 2 .none;raiseNew (<- newExc (.type "StopIteration") [])
   else
    let some places <- seqItems? first|unsupported "internal:set_iterator"
    match places[((i:Int)).toNat]? with
    |some (.int place _) =>
     let x <- setNextDrawn a place.toNat ((ep:Int)).toNat
     setField (.ref I) 1 (rawInt ((i:Int)+1))
     ret x
    |some _=>unsupported "internal:set_iterator"
    |none=>setField (.ref I) 0 (rawInt 0);setField (.ref I) 2 .none;raiseNew (<- newExc (.type "StopIteration") []))
   (fun fin s'=>∃r,fin = .done (.ret r)/\Q (some r) s') (fun e s'=>wpAny (model P w) A (do if <- isInstance e (.type "StopIteration") then pure none else throw e) Q E s') s):wpAny (model P w) A (pyNext (.ref I)) Q E s:=by
 have hT:s.TypeIs (.ref I) "set_iterator" :=⟨_,hit,rfl⟩;unfold pyNext;refine ae (sf (qt (name:=Str.ofString "__next__") hT sD (jh sD hT Su ?_ (SK _))));unfold Builtin.«set_iterator.__next__»;refine ae (aj ?_)
 dsimp only
 refine ae (Ry hit rfl ?_)
 dsimp only
 refine ae ?_;unfold setEntries;refine ae (k7 ho hd hf (aj ?_))
 dsimp only
 rw[au (by rw[hn];simp)]
 refine k6 body (fun fin s' h=>?_) fun e s' h=>?_
 ·obtain⟨r,rfl,q⟩:=h
  exact⟨r,rfl,aj q⟩
 ·exact h
theorem KC {Q:Option Value->Shared->Prop} (hh:A.handled=none) (q:∀h',(∀b ob,s.heap.get? b=some ob->h'.get? b=some ob)->Q none { s with heap:=h' }) :
  wpAny (model P w) A.in1 (newExc (.type "StopIteration") [] >>= fun e=>(raiseNew e:Sem PySem.Fin)) (fun fin s'=>∃r,fin = .done (.ret r)/\Q (some r) s') (fun e s'=>wpAny (model P w) A (do if <- isInstance e (.type "StopIteration") then pure none else throw e) Q E s') s:=by
 refine ae ?_;simp only[newExc,newTuple];refine ae (j9 ?_ (by size_fits))
 refine ae (m:=firstArgMember _ _) (Il (a:=Value.none) (by first|rfl|(simp only[firstArgMember];rfl)) (j9 ?_ (by size_fits)))
 simp only[raiseNew];refine ae (Ij ?_);rw[show A.in1.handled=none from hh];refine ae (aj (sh ?_));refine ae (BQ (T:= "StopIteration") (b:=true) (show Shared.TypeIs _ _ _ from⟨_,bZ _ rfl,rfl⟩) Im ?_);exact aj (q _ fun b ob e=>aT _ (aT _ e))
theorem Sv {slot i n nx:Nat}{x:Value}{Q:Option Value->Shared->Prop} (hit:s.heap.get? I=some (lK (.int slot 0) i a n ep)) (ho:s.heap.get? a=some o) (hd:o.data = .set es ep t) (hf:t.fits es.size=true) (hn:es.size=n)
  (Fp:∀ (E':Value->Shared->Prop) (Q':Option (Value×Nat)->Shared->Prop),Q' (some (x,nx)) s->wpAny (model P w) A.in1 (setNext a slot i ep) Q' E' s)
  (q:∀h',h'.get? I=some (lK (.int nx 0) (i+1) a n ep)->Heap.SameBut I s.heap h'->Q (some x) { s with heap:=h' }):wpAny (model P w) A (pyNext (.ref I)) Q E s:=by
 refine zw hit ho hd hf hn ?_;simp only[nE];refine ae (Fp _ _ ?_);refine ae (lX hit (by simp) fun h1 g1 s1=>?_)
 refine ae (lX g1 (by simp) fun h2 g2 s2=>?_)
 exact aj ⟨x,rfl,q h2 (by rw[g2];simp[rawInt]) (s1.trans s2)⟩
theorem SN {slot i n:Nat}{Q:Option Value->Shared->Prop} (hh:A.handled=none) (hit:s.heap.get? I=some (lK (.int slot 0) i a n ep)) (ho:s.heap.get? a=some o) (hd:o.data = .set es ep t) (hf:t.fits es.size=true) (hn:es.size=n)
  (Fp:∀ (E':Value->Shared->Prop) (Q':Option (Value×Nat)->Shared->Prop),Q' none s->wpAny (model P w) A.in1 (setNext a slot i ep) Q' E' s)
  (q:∀h',(∀b ob,b≠I->s.heap.get? b=some ob->h'.get? b=some ob)->Q none { s with heap:=h' }):wpAny (model P w) A (pyNext (.ref I)) Q E s:=by
 refine zw hit ho hd hf hn ?_;simp only[nE];refine ae (Fp _ _ ?_);refine ae (lX hit (by simp) fun h1 g1 s1=>?_)
 exact KC hh fun h2 k2=>q h2 fun b ob nb e=>k2 b ob (by rw[s1.2 b nb];exact e)
theorem Sx {pt:Addr}{ps:List Nat}{i n pl:Nat}{z:Int}{x:Value}{Q:Option Value->Shared->Prop} (hit:s.heap.get? I=some (lK (.ref pt) i a n ep)) (ho:s.heap.get? a=some o) (hd:o.data = .set es ep t) (hf:t.fits es.size=true) (hn:es.size=n)
  (hp:∃op c,s.heap.get? pt=some op/\op.data = .seq (ps.map fun(j:Nat)=>rawInt j).toArray c) (hi:ps[i]? = some pl) (hx:es[pl]? = some (z,x))
  (q:∀h',h'.get? I=some (lK (.ref pt) (i+1) a n ep)->Heap.SameBut I s.heap h'->Q (some x) { s with heap:=h' }):wpAny (model P w) A (pyNext (.ref I)) Q E s:=by
 refine zw hit ho hd hf hn ?_;obtain⟨op,c,Fq,uS⟩:=hp
 dsimp only
 simp only[nE];refine ae ?_;unfold seqItems?;refine ae (yK Fq ?_);rw[uS];refine aj ?_
 dsimp only
 have e1:(ps.map fun(j:Nat)=>rawInt j).toArray[i]? = some (rawInt pl):=by simp[hi]
 rw[e1];show wpAny _ _ (setNextDrawn a ((pl:Int)).toNat ep >>= _) _ _ s;rw[nE];unfold setNextDrawn;refine ae (ae (k7 ho hd hf ?_))
 dsimp only
 rw[au (by simp),hx]
 refine aj ?_;refine ae (lX hit (by simp) fun h2 g2 s2=>?_)
 exact aj ⟨x,rfl,q h2 (by rw[g2];simp[rawInt]) s2⟩
theorem SO {pt:Addr}{ps:List Nat}{i n:Nat}{Q:Option Value->Shared->Prop} (hh:A.handled=none) (hit:s.heap.get? I=some (lK (.ref pt) i a n ep)) (ho:s.heap.get? a=some o) (hd:o.data = .set es ep t) (hf:t.fits es.size=true) (hn:es.size=n)
  (hp:∃op c,s.heap.get? pt=some op/\op.data = .seq (ps.map fun(j:Nat)=>rawInt j).toArray c) (hi:ps.length<=i)
  (q:∀h',(∀b ob,b≠I->s.heap.get? b=some ob->h'.get? b=some ob)->Q none { s with heap:=h' }):wpAny (model P w) A (pyNext (.ref I)) Q E s:=by
 refine zw hit ho hd hf hn ?_;obtain⟨op,c,Fq,uS⟩:=hp
 dsimp only
 simp only[nE];refine ae ?_;unfold seqItems?;refine ae (yK Fq ?_);rw[uS];refine aj ?_
 dsimp only
 have e1:(ps.map fun(j:Nat)=>rawInt j).toArray[i]? = none:=by simp;omega
 rw[e1];refine ae (lX hit (by simp) fun h1 g1 s1=>?_)
 refine ae (lX g1 (by simp) fun h2 g2 s2=>?_)
 exact KC hh fun h3 k3=>q h3 fun b ob nb e=>k3 b ob (by rw[s2.2 b nb,s1.2 b nb];exact e)
end
theorem JV {α:Type} (next:Nat->Nat):∀ (fuel k:Nat) (left:List α) (out:Array α),left.length=fuel->(pickOrder.go next fuel k left out).toList.Perm (out.toList++left)
 |0,k,left,out,h=>by
  have:left = []:=vA h;subst this;unfold pickOrder.go;simp
 |fuel+1,k,left,out,h=>by
  have aP:next k % left.length < left.length:=Nat.mod_lt _ (by omega)
  unfold pickOrder.go;rw[bH aP]
  dsimp only
  refine(JV next fuel (k+1) _ _ (by rw[ah3,aB aP];omega)).trans ?_
  rw[Array.toList_push,HN];refine Rz _ ?_;generalize next k % left.length=j at aP;have key:∀ (l:List α) (j:Nat) (h:j < l.length),(l[j]::l.eraseIdx j).Perm l:=by
   intro l
   induction l with
   |nil=>intro j h;exact absurd h (yX _)
   |cons x l ih =>
    intro j h;cases j with
    |zero=>exact oS _
    |succ j=>exact(List.Perm.swap _ _ _).trans ((ih j (Io h)).cons x)
  exact key left j aP
section
variable{P:Program}{w:World}{A:Around}{E:Value->Shared->Prop}{s:Shared}{a:Addr}{xs:List Str}
theorem Lp {α:Type}:∀ (m:Nat) (l:List α) {s:Shared}{Q:List α->Shared->Prop},l.length=m->(∀ps d,ps.Perm l->Q ps { s with drawn:=d })->wpAny (model P w) A (drawOrder m l) Q E s
 |0,l,s,Q,h,q=>by
  have:l = []:=vA h;subst this;unfold drawOrder;exact aj (q [] s.drawn (oS _))
 |m+1,[],s,Q,h,q=>by simp at h
 |m+1,x::l,s,Q,h,q=>by
  unfold drawOrder;refine ae ?_;have ch:∀ {Q':Nat->Shared->Prop}{s:Shared},(∀i d,i < (x::l).length->Q' i { s with drawn:=d })->wpAny (model P w) A (choose .order (x::l).length) Q' E s:=fun {Q' s} q'=>by
   intro Γ p hΓ;exact⟨by simp,q' _ _ (Nat.mod_lt _ (by simp))⟩
  refine ch fun i d hi=>?_;rw[bH hi]
  dsimp only
  refine ae (Lp m _ (by rw[ah3,aB hi];omega) fun ps d' hp=>aj ?_)
  refine q _ _ ((hp.cons _).trans ?_);have key:∀ (l:List α) (j:Nat) (h:j < l.length),(l[j]::l.eraseIdx j).Perm l:=by
   intro l
   induction l with
   |nil=>intro j h;exact absurd h (yX _)
   |cons x l ih =>
    intro j h;cases j with
    |zero=>exact oS _
    |succ j=>exact(List.Perm.swap _ _ _).trans ((ih j (Io h)).cons x)
  exact key _ i hi
theorem TV {es:List (Int×Value)} (h:ElemsOf (strKind P w) es):∃ks:List Str,StrsAre (es.map (·.2)) ks /\ ∀k,k∈ks ↔ ∃e∈es,(strKind P w).is k e.2=true:=by
 induction es with
 |nil=>exact⟨[],.nil,fun k=>(by simp)⟩
 |cons e es ih =>
  obtain⟨ks,h1,h2⟩:=ih h.tail;obtain⟨⟨k,hk,_⟩,_⟩:=h.head;obtain⟨t,et⟩:=HI hk;refine⟨k::ks,?_,fun y=>?_⟩
  ·rw[cA,et];exact .cons k t h1
  ·rw[a9,h2 y]
   constructor
   ·rintro(rfl|⟨e',he,q⟩)
    ·exact⟨e,aZ,hk⟩
    ·exact⟨e',bJ _ he,q⟩
   ·rintro⟨e',he,q⟩
    rcases a9.mp he with rfl|he
    ·exact .inl ((strKind P w).inj _ _ _ q hk)
    ·exact .inr ⟨e',he,q⟩
theorem JW {vs us:List Value}{ks:List Str} (h:StrsAre us ks) (p:vs.Perm us):∃ys,StrsAre vs ys/\ys.Perm ks:=by
 induction p generalizing ks with
 |nil=>exact⟨ks,h,oS _⟩
 |cons x _ ih =>
  cases h with
  |cons y t r=>obtain⟨ys,h1,h2⟩:=ih r;exact⟨y::ys,.cons y t h1,h2.cons y⟩
 |swap x y l =>
  cases h with
  |cons k1 t1 r1 =>
   cases r1 with
   |cons k2 t2 r2=>exact⟨k2::k1::_,.cons k2 t2 (.cons k1 t1 r2),List.Perm.swap _ _ _⟩
 |trans _ _ Fj Fl =>
  obtain⟨ys,h1,h2⟩:=Fl h;obtain⟨zs,h3,h4⟩:=Fj h1;exact⟨zs,h3,h4.trans h2⟩
theorem zx {vs:List Value}{ys:List Str} (h:StrsAre vs ys):vs.length=ys.length:=by
 induction h with
 |nil=>rfl
 |cons _ _ _ ih=>rw[d4,d4,ih]
theorem SQ {a b:List Str} (nd:a.Nodup) (hl:b.length=a.length) (h:∀x∈a,x∈b):b.Perm a:=by
 induction a generalizing b with
 |nil=>have:b = []:=vA hl;subst this;exact oS _
 |cons x a ih =>
  rw[eP]at nd;have hx:=h x aZ;have p1:=List.perm_cons_erase hx;have dk:(b.erase x).length=a.length:=by rw[Q9 hx,hl];rfl
  have h2:∀y∈a,y∈b.erase x:=fun y hy=>(Ra (show y≠x from fun e=>nd.1 (by rw[<-e];exact hy))).mpr (h y (bJ _ hy))
  exact p1.trans ((ih nd.2 dk h2).cons x)
structure D9 (P:Program) (w:World) (a:Addr) (vs:List Value) (I:Addr) (fp:List Addr) (h:Heap):Prop where
 go:∃St:Nat->Heap->Prop,(∀A:Around,A.handled=none->Walks P w A I fp [I] vs.length (fun i v=>vs[i]? = some v) St)/\St 0 h
theorem KG {o:Obj}{es:Array (Int×Value)}{ep:Nat}{t:SetTable}{I:Addr} (slot:Nat->Nat) {vs:List Value} (bx:a≠I) (hd:o.data = .set es ep t) (hf:t.fits es.size=true) (hn:es.size=vs.length) (h0:slot 0=0) {h:Heap} (ho:h.get? a=some o) (hi:h.get? I=some (lK (.int 0 0) 0 a vs.length ep))
  (item:∀ (A:Around) (s:Shared) (i:Nat) (v:Value) (E':Value->Shared->Prop) (Q':Option (Value×Nat)->Shared->Prop),s.heap.get? a=some o->vs[i]? = some v->Q' (some (v,slot (i+1))) s->wpAny (model P w) A (setNext a (slot i) i ep) Q' E' s)
  (done:∀ (A:Around) (s:Shared) (E':Value->Shared->Prop) (Q':Option (Value×Nat)->Shared->Prop),s.heap.get? a=some o->Q' none s->wpAny (model P w) A (setNext a (slot vs.length) vs.length ep) Q' E' s):D9 P w a vs I [I,a] h:=by
 refine⟨fun i h=>h.get? a=some o/\h.get? I=some (lK (.int (slot i) 0) i a vs.length ep),fun A hh=>⟨fun b hb=>(by simp at hb;simp[hb]),fun i h h' st k=>⟨k a (by simp) _ st.1,k I (by simp) _ st.2⟩,fun i s Q E hi st q=>?_,fun s Q E st q=>?_,fun i s Q E st q=>?_⟩,ho,by rw[h0];exact hi⟩
 ·have hv:vs[i]? = some vs[i]:=bH hi
  refine Sv st.2 st.1 hd hf hn (fun E' Q' q'=>item _ _ i _ E' Q' st.1 hv q') fun h' g sb=>?_;exact q _ h' s.toks hv ⟨by rw[sb.2 a bx];exact st.1,g⟩ fun b ob hb e=>by rw[sb.2 b (fun z=>hb (by simp[z]))];exact e
 ·exact SN hh st.2 st.1 hd hf hn (fun E' Q' q'=>done _ _ E' Q' st.1 q') fun h' k=>q h' s.toks fun b ob hb e=>k b ob (fun z=>hb (by simp[z])) e
 ·have hT:s.TypeIs (.ref I) "set_iterator" :=⟨_,st.2,rfl⟩
  refine Ip hT ze (jh ze hT IP ?_ (IT _));show wpAny _ _ (ret (.ref I)) _ _ s;exact aj ⟨_,rfl,"set_iterator",_,hT,sD.lookup,q⟩
theorem VM {o:Obj}{es:Array (Int×Value)}{ep:Nat}{t:SetTable}{I pt:Addr}{ps:List Nat}{vs:List Value} (bx:a≠I) (hnp:pt≠I) (hd:o.data = .set es ep t) (hf:t.fits es.size=true) (hn:es.size=vs.length) (cS:ps.length=vs.length) {h:Heap} (ho:h.get? a=some o) (hi:h.get? I=some (lK (.ref pt) 0 a vs.length ep))
  {op:Obj}{c:Nat} (hp:h.get? pt=some op) (uS:op.data = .seq (ps.map fun(j:Nat)=>rawInt j).toArray c) (item:∀ (i:Nat) (v:Value),vs[i]? = some v -> ∃pl z,ps[i]? = some pl/\es[pl]? = some (z,v)):D9 P w a vs I [I,a,pt] h:=by
 refine⟨fun i h=>h.get? a=some o/\h.get? pt=some op/\h.get? I=some (lK (.ref pt) i a vs.length ep),fun A hh=>⟨fun b hb=>(by simp at hb;simp[hb]),fun i h h' st k=>⟨k a (by simp) _ st.1,k pt (by simp) _ st.2.1,k I (by simp) _ st.2.2⟩,fun i s Q E hi st q=>?_,fun s Q E st q=>?_,fun i s Q E st q=>?_⟩,ho,hp,hi⟩
 ·have hv:vs[i]? = some vs[i]:=bH hi
  obtain⟨pl,z,h1,h2⟩:=item i _ hv;refine Sx st.2.2 st.1 hd hf hn ⟨op,c,st.2.1,uS⟩ h1 h2 fun h' g sb=>?_;exact q _ h' s.toks hv ⟨by rw[sb.2 a bx];exact st.1,by rw[sb.2 pt hnp];exact st.2.1,g⟩ fun b ob hb e=>by rw[sb.2 b (fun z=>hb (by simp[z]))];exact e
 ·exact SO hh st.2.2 st.1 hd hf hn ⟨op,c,st.2.1,uS⟩ (by omega) fun h' k=>q h' s.toks fun b ob hb e=>k b ob (fun z=>hb (by simp[z])) e
 ·have hT:s.TypeIs (.ref I) "set_iterator" :=⟨_,st.2.2,rfl⟩
  refine Ip hT ze (jh ze hT IP ?_ (IT _));show wpAny _ _ (ret (.ref I)) _ _ s;exact aj ⟨_,rfl,"set_iterator",_,hT,sD.lookup,q⟩
end
theorem JX (j k:Nat):SetTable.below #[j] k=if j < k then 1 else 0:=by
 unfold SetTable.below;show SetTable.below.go #[j] k 1 0 1=_;unfold SetTable.below.go
 by_cases h:j < k
 ·simp[h,SetTable.below.go]
 ·simp[h,SetTable.below.go]
theorem TX (k:Nat):SetTable.below #[] k=0:=by unfold SetTable.below;rfl
section
variable{P:Program}{w:World}{A:Around}{E:Value->Shared->Prop}{s:Shared}{a:Addr}{xs:List Str}
theorem VN {Q:Value->Shared->Prop} (hS:fu P w s.heap a xs) (nd:xs.Nodup)
  (q:∀ (h':Heap) (d':Drawn) (I:Addr) (fp:List Addr) (vs:List Value) (ys:List Str),D9 P w a vs I fp h'->StrsAre vs ys->ys.Perm xs->(∀b∈fp,b=a\/s.heap.objs.size<=b)->I∈fp->(∀b∈fp,b < h'.objs.size)->s.heap.objs.size<=I->(∀b ob,s.heap.get? b=some ob->h'.get? b=some ob)->Q (.ref I) { s with heap:=h',drawn:=d' }) :
  wpAny (model P w) A (pyIter (.ref a)) Q E s:=by
 have hT:=hS.typeIs;obtain⟨o,es,ep,t,ho,hex,hd,nc,iY,hb,hf,hn,xl,cS⟩:=hS;have x9:=aR ho;obtain⟨ks,k1,k2⟩:=TV nc;have kl:ks.length=xs.length:=by have:=zx k1;rw[ax,jG]at this;omega
 have kp:ks.Perm xs:=SQ nd kl fun x hx=>(k2 x).mpr ((iY x).mp hx);refine Ip hT F.slot_set_iter (jh F.slot_set_iter hT SM ?_ (F.args_set_iter_1 _));unfold Builtin.«frozenset.__iter__» Builtin.Frozenset.slot0 Builtin.Frozenset.sizeOf setEntries setDrawn setsByText;refine ae (ae (aj (aj ?_)));refine ae (ae (ae (k7 ho hd hf (aj (aj ?_)))))
 dsimp only
 refine ae (ae (k7 ho hd hf ?_));dsimp only;refine ae (ae (oR (aj (aj ?_))));show wpAny _ _ (if (!w.params.followText "set-order" && (!t.plain && decide (es.size > 1)))=true then _ else _) _ _ s
 by_cases big:(!w.params.followText "set-order" && (!t.plain && decide (es.size > 1)))=true
 ·
  rw[aB big];refine ae (Lp es.size (List.range es.size) (by simp) fun ps d gK=>?_)
  have pl:ps.length=es.size:=by rw[gK.length_eq];simp
  refine ae (j9 ?_ (by show(ps.map _).toArray.size<=sizeLine;rw[cQ,ax,pl];exact Ik hb))
  refine ae ?_;unfold setEpoch;refine ae (k7 (aT _ ho) hd hf (aj ?_))
  dsimp only
  refine ae (j9 (aj ⟨_,rfl,"set_iterator",_,⟨_,bZ _ rfl,rfl⟩,sD.lookup,?_⟩));have AS:∀p∈ps,p < es.size:=fun p hp=>nC.mp (gK.mem_iff.mp hp)
  let vs:List Value:=ps.map fun p=>(es.toList.map (·.2)).getD p .none
  have pv:vs.Perm (es.toList.map (·.2)):=by
   have e1:(List.range es.size).map (fun p=>(es.toList.map (·.2)).getD p .none)=es.toList.map (·.2):=by
    apply Rt
    ·simp
    ·intro n h1 h2
     have:n < es.size:=by simpa using h1
     simp[this]
   rw[<-e1];exact gK.map _
  obtain⟨ys,y1,y2⟩:=JW k1 pv;have vl:vs.length=es.size:=by show(ps.map _).length=_;rw[ax,pl]
  have uT:(s.heap.push { cls:= .type "tuple",data:= .seq (ps.map fun(i:Nat)=>rawInt i).toArray }).objs.size=s.heap.objs.size+1:=jH ..;refine q _ d _ [_,a,s.heap.objs.size] vs ys (VM (o:=o) (op:={ cls:= .type "tuple",data:= .seq (ps.map fun(i:Nat)=>rawInt i).toArray }) (ps:=ps) (by rw[uT];exact bj (sk x9)) (by rw[uT];exact bj (BP _)) hd hf vl.symm (by rw[vl,pl]) (aT _ (aT _ ho)) ?_ (aT _ (bZ _ rfl)) rfl ?_) y1 (y2.trans kp) ?_ aZ ?_ (by rw[uT];omega) fun b ob e=>aT _ (aT _ e)
  ·rw[bZ _ rfl,vl];rfl
  ·intro i v hv
   have Og:(ps.map fun p=>(es.toList.map (·.2)).getD p .none)[i]? = some v:=hv;rw[gA]at Og;obtain⟨p,hp,ev⟩:=iD.mp Og;have aP:=AS p (gB hp);refine⟨p,es[p].1,hp,?_⟩;rw[vB aP]
   congr 1
   rw[<-ev];simp[aP]
  ·intro b jD
   simp only[a9,lZ,md]at jD;rcases jD with rfl|rfl|rfl
   ·exact .inr (by rw[uT];omega)
   ·exact .inl rfl
   ·exact .inr (aO _)
  ·intro b jD
   simp only[a9,lZ,md]at jD;rw[jH,uT];rcases jD with z|z|z
   ·rw[z,uT];exact BP _
   ·rw[z];exact sk (sk x9)
   ·rw[z];exact sk (BP _)
 ·rw[au big]
  refine ae (aj ?_);refine ae ?_;unfold setEpoch;refine ae (k7 ho hd hf (aj ?_))
  dsimp only
  refine ae (j9 (aj ⟨_,rfl,"set_iterator",_,⟨_,bZ _ rfl,rfl⟩,sD.lookup,?_⟩));have Oh:∀b ∈ [s.heap.objs.size,a],b=a\/s.heap.objs.size<=b:=fun b jD=>by
   simp only[a9,lZ,md]at jD;rcases jD with rfl|rfl
   ·exact .inr (aO _)
   ·exact .inl rfl
  have Oi:∀ (oo:Obj),∀b ∈ [s.heap.objs.size,a],b < (s.heap.push oo).objs.size:=fun oo b jD=>by
   simp only[a9,lZ,md]at jD;rw[jH];rcases jD with z|z
   ·rw[z];exact BP _
   ·rw[z];exact sk x9
  cases bt:w.params.followText "set-order" with
  |true =>
   have sv:∀next:Nat->Nat,((pickOrder next es).toList.map (·.2)).Perm (es.toList.map (·.2)):=fun next=>by
    unfold pickOrder;have:=JV next es.size 0 es.toList #[] (by simp)
    exact(by simpa using this:(pickOrder.go next es.size 0 es.toList #[]).toList.Perm es.toList).map _
   obtain⟨ys,y1,y2⟩:=JW k1 (sv (w.params.setOrder a ep));have vl:=(sv (w.params.setOrder a ep)).length_eq;rw[ax,jG,ax,jG]at vl;refine q _ s.drawn _ [_,a] ((pickOrder (w.params.setOrder a ep) es).toList.map (·.2)) ys (KG (o:=o) (fun _=>0) (bj x9) hd hf (by rw[ax,jG,vl]) rfl (aT _ ho) ?_ ?_ ?_) y1 (y2.trans kp) Oh aZ (Oi _) (aO _) fun b ob e=>aT _ e
   ·rw[bZ _ rfl,ax,jG,vl];rfl
   ·intro A s i v E' Q' ha hv hq
    unfold setNext setsByText;refine ae (k7 ha hd hf ?_);dsimp only;refine ae (ae (oR (aj ?_)));show wpAny _ _ (if w.params.followText "set-order" = true then _ else _) _ _ _;rw[aB bt,au (by simp)]
    unfold setWalk setsByText;refine ae (ae (k7 ha hd hf ?_));dsimp only;refine ae (ae (oR (aj ?_)));show wpAny _ _ (if w.params.followText "set-order" = true then _ else _) _ _ _;rw[aB bt];refine ae (oR (aj (aj ?_)));show Q' (((pickOrder (w.params.setOrder a ep) es)[i]?).map fun e=>(e.2,0)) s;rw[gA,BD]at hv;obtain⟨e,he,ev⟩:=iD.mp hv;rw[he];show Q' (some (e.2,0)) s;rw[ev];exact hq
   ·intro A s E' Q' ha hq
    unfold setNext setsByText;refine ae (k7 ha hd hf ?_);dsimp only;refine ae (ae (oR (aj ?_)));show wpAny _ _ (if w.params.followText "set-order" = true then _ else _) _ _ _;rw[aB bt,au (by simp)]
    unfold setWalk setsByText;refine ae (ae (k7 ha hd hf ?_));dsimp only;refine ae (ae (oR (aj ?_)));show wpAny _ _ (if w.params.followText "set-order" = true then _ else _) _ _ _;rw[aB bt];refine ae (oR (aj (aj ?_)));show Q' (((pickOrder (w.params.setOrder a ep) es)[((pickOrder (w.params.setOrder a ep) es).toList.map (·.2)).length]?).map fun e=>(e.2,0)) s;rw[BR (by simp)]
    exact hq
  |false =>
   have bw:es.size<=1:=by
    rw[bt]at big
    by_cases z:es.size<=1
    ·exact z
    ·have hp:=cS (by omega)
     rw[hp]at big;exact absurd (by simp;omega) big
   have led:t.led=true:=by rw[xl,bt];rfl
   have xG:t.place.size=es.size:=by
    have:=hf;simp only[SetTable.fits,vw,cT,decide_eq_true_eq]at this;exact this.1
   refine q _ s.drawn _ [_,a] (es.toList.map (·.2)) ks (KG (o:=o) (fun i=>if i=0 then 0 else t.place.getD 0 0+1) (bj x9) hd hf (by rw[ax,jG]) rfl (aT _ ho) ?_ ?_ ?_) k1 kp Oh aZ (Oi _) (aO _) fun b ob e=>aT _ e
   ·rw[bZ _ rfl,ax,jG];rfl
   ·intro A s i v E' Q' ha hv hq
    rw[gA,BD]at hv;obtain⟨e,he,ev⟩:=iD.mp hv;have hi:i < es.size:=(yR.mp he).1;have i0:i=0:=by omega
    subst i0;obtain⟨pl,AU⟩:∃j,t.place = #[j]:=by
     have:t.place.size=1:=by omega
     exact⟨t.place[0],by
      apply Array.ext
      ·simp[this]
      ·intro k h1 h2;have:k=0:=by omega
       subst this;simp⟩
    unfold setNext setsByText;refine ae (k7 ha hd hf ?_);dsimp only;refine ae (ae (oR (aj ?_)));show wpAny _ _ (if w.params.followText "set-order" = true then _ else _) _ _ _;rw[au (by rw[bt];exact cP)]
    show wpAny _ _ (if (!t.plain && decide (es.size > 1))=true then _ else _) _ _ _;rw[au (by simp;omega)]
    show wpAny _ _ ((if (!t.led && !es.isEmpty)=true then unsupported "set:maker-not-led" else pure ()) >>= _) _ _ _;rw[led,au (by simp)]
    refine ae (aj ?_);rw[AU,aB rfl,JX,au (by omega),he]
    refine aj ?_;show Q' (some (e.2,pl+1)) s;rw[ev];have:(if 0+1=0 then 0 else t.place.getD 0 0+1)=pl+1:=by rw[AU];rfl
    rw[this]at hq;exact hq
   ·intro A s E' Q' ha hq
    unfold setNext setsByText;refine ae (k7 ha hd hf ?_);dsimp only;refine ae (ae (oR (aj ?_)));show wpAny _ _ (if w.params.followText "set-order" = true then _ else _) _ _ _;rw[au (by rw[bt];exact cP)]
    show wpAny _ _ (if (!t.plain && decide (es.size > 1))=true then _ else _) _ _ _;rw[au (by simp;omega)]
    show wpAny _ _ ((if (!t.led && !es.isEmpty)=true then unsupported "set:maker-not-led" else pure ()) >>= _) _ _ _;rw[led,au (by simp)]
    refine ae (aj ?_);have out:es[SetTable.below t.place (if (es.toList.map (·.2)).length=0 then 0 else t.place.getD 0 0+1)]? = none:=by
     rw[ax,jG]
     by_cases z:es.size=0
     ·have:t.place = #[]:=Array.eq_empty_of_size_eq_zero (by omega)
      rw[this,TX];exact BR (by omega)
     ·have e1:es.size=1:=by omega
      obtain⟨pl,AU⟩:∃j,t.place = #[j]:=by
       have:t.place.size=1:=by omega
       exact⟨t.place[0],by
        apply Array.ext
        ·simp[this]
        ·intro k h1 h2;have:k=0:=by omega
         subst this;simp⟩
      rw[au z,AU,JX];have : #[pl].getD 0 0=pl:=rfl;rw[this,aB (by omega)]
      exact BR (by omega)
    rw[out];exact aj hq
end
end HS
namespace HS
open PySem PySem.Spec PyProof.Rows PySem.W
section
variable{P:Program}{w:World}{A:Around}{E:Value->Shared->Prop}{s:Shared}{a:Addr}{xs:List Str}
theorem VO {Q:Bool->Shared->Prop} (hT:s.TypeIs (.ref a) "set") (h:Q false s):wpAny (model P w) A (Builtin.List.listLengthHint (.ref a)) Q E s:=by
 unfold Builtin.List.listLengthHint;refine ae (Rg hT PySem.F.slot_set_len.lookup ?_);generalize Oj:("set.__len__" : String)=id0
 wp_delta
 rw[show splitId id0=some ("set","__len__") from by subst Oj;decide +kernel];subst Oj
 refine ae (BQ (T:= "set") (b:=true) hT (by rw[Rx];kernel_rfl) ?_)
 refine RB (fun z=>absurd z (by decide)) fun _=>RB (fun _=>?_) fun z=>absurd (by decide +kernel) z
 exact ae (oP hT (aj h))
theorem TY {R:Result->Shared->Prop} (hh:A.handled=none) (hS:fu P w s.heap a xs) (nd:xs.Nodup) (S:Addr) (Ol:S≠a) (res:Value) (c₀:Nat) (hL:s.heap.get? S=some { cls:= .type "list",data:= .seq #[] c₀ })
  (hR:∀h' d' tk (vs:List Value) (ys:List Str) c',(∀b o,b≠S->s.heap.get? b=some o->h'.get? b=some o)->h'.get? S=some { cls:= .type "list",dict:=none,data:= .seq vs.toArray c',slots:= #[] }->StrsAre vs ys->ys.Perm xs->R (.ok (.ret res)) { s with heap:=h',drawn:=d',toks:=tk }) :
  wpAny (model P w) A.in1 (Builtin.List.listExtendWith (.ref S) (.ref a) res)
   (fun fin s'=>match fin with|.done f=>R (.ok f) s'|.again c'=>c'.quiet=true/\codeAny (model P w) A c' R s') (fun e s'=>R (.error e) s') s:=by
 have hT:=hS.typeIs;have hsz:xs.length < scanBound:=by obtain⟨o,es,ep,t,ho,hex,hd,nc,iY,hb,hf,hn,_⟩:=hS;omega
 unfold Builtin.List.listExtendWith;refine ae (oP (T:= "set") hT ?_);have h1:Builtin.List.listSameRef (.ref S) (.ref a)=false:=by simp[Builtin.List.listSameRef,Ol]
 have h2:(Value.type "set" == Value.type "list")=false:=by decide
 have h3:(Value.type "set" == Value.type "tuple")=false:=by decide
 simp only[h1,h2,h3,Q1,oO,j'];refine ae (VN hS nd fun h' d' I fp vs ys W v1 v2 f1 f2 f3 f4 k=>?_);obtain⟨St,Wk,st⟩:=W.go;have W1:=Wk A.in1 (by simpa using hh)
 have vl:vs.length=xs.length:=by rw[zx v1,v2.length_eq]
 have Om:S ∉ fp:=fun z=>by
  rcases f1 S z with e|e
  ·exact Ol e
  ·exact absurd (aR hL) (BK.mpr e)
 have Tn:Shared.TypeIs { s with heap:=h',drawn:=d' } (.ref a) "set" :=by
  obtain⟨o,e,c⟩:=hT;exact⟨o,k _ _ e,c⟩
 refine ae (cX (VO Tn ?_));have Fs:=k _ _ hL;have key:∀ (h:Heap) (c₁:Nat),St 0 h->(∀b o,b≠S->s.heap.get? b=some o->h.get? b=some o)->h.get? S=some { cls:= .type "list",data:= .seq #[] c₁ } ->
   codeAny (model P w) A (.builtin "list.extend.loop" ⟨[.ref S,.ref I,res],[]⟩) R { s with heap:=h,drawn:=d' }:=by
  intro h c₁ rC hk YL;refine codeAny_extend_loopS W1.toS (by rw[vl];exact Ik hsz) S Om res vs.length 0 _ #[] c₁ rfl (bG _) rC YL (ItemsOf.nil _) fun s' MY c' hm hS' D'=>?_
  rw[Moved.eq_with hm];have ev:MY.toList=vs:=by
   apply List.ext_getElem?
   intro j;rw[BD]
   by_cases hj:j < vs.length
   ·have uU:j < MY.size:=by rw[D'.1];exact hj
    rw[vB uU];exact(D'.2 j _ (vB uU)).symm
   ·rw[BR (by rw[D'.1];omega),Ih (by omega)]
  refine hR s'.heap d' s'.toks vs ys c' (fun b o hb e=>hm.heap b o (fun iY=>?_) (hk b o hb e)) (by rw[hS',<-ev]) v1 v2
  rcases a9.mp iY with e'|iY
  ·exact hb e'
  ·exact absurd (aR e) (by rw[gn.mp iY];exact BK.mpr f4)
 refine RB (fun _=>?_) (fun _=>aj ⟨kc ah4 _,key _ c₀ st (fun b o _ e=>k b o e) Fs⟩);refine ae (lU (ae ?_));show wpAny _ _ (updateSeq S (·.push .none) >>= fun _=>updateSeq S (·.pop)) _ _ _;refine ae (wpAny_updateSeq Fs rfl ?_);have Ml:=lW (Obj.mapSeq (·.push Value.none)) Fs rfl;refine wpAny_updateSeq (hz:=by seq_fits) Ml rfl ?_
 have YM:=lW (Obj.mapSeq (·.pop)) Ml rfl;have xQ:∀b o,b≠S->h'.get? b=some o->((h'.update S (Obj.mapSeq (·.push Value.none))).update S (Obj.mapSeq (·.pop))).get? b=some o:=fun b o hb e=>(iM _ _ (aQ hb)).trans ((iM _ _ (aQ hb)).trans e);exact aj ⟨kc ah4 _,key _ _ (W1.frame 0 _ _ st fun b hb o e=>xQ b o (fun z=>Om (z ▸ hb)) e) (fun b o hb e=>xQ b o hb (k b o e)) YM⟩
theorem Ti {Q:List Value->Shared->Prop} (hh:A.handled=none) (hS:fu P w s.heap a xs) (nd:xs.Nodup)
  (hQ:∀h' d' tk (vs:List Value) (ys:List Str),(∀b o,s.heap.get? b=some o->h'.get? b=some o)->StrsAre vs ys->ys.Perm xs->Q vs { s with heap:=h',drawn:=d',toks:=tk }):wpAny (model P w) A (collect (.ref a)) Q E s:=by
 unfold collect;refine ae (yU (gQ RC ?_));rw[je RE _];show wpAny _ A.in1 (newList [] >>= fun l=>again (.builtin "list.__iadd__" ⟨[l,.ref a],[]⟩)) _ _ s;refine ae (j9 (aj ⟨kc yY _,gQ RF ?_⟩));rw[je yY _];show wpAny _ A.in1 (Builtin.List.listExtendWith (.ref s.heap.objs.size) (.ref a) (.ref s.heap.objs.size)) _ _ _;have hn:s.heap.objs.size≠a:=lV hS.lt;refine TY (R:=fun r s'=>match r with|.ok (.ret v)=>wpAny (model P w) A (match v with|.ref a=>(do match (<- load a).data with|.seq xs _=>pure xs.toList|_=>unsupported "internal:collect")|_=>unsupported "internal:collect") Q E s'|.ok _=>False|.error e=>E e s') (s:={ s with heap:=s.heap.push { cls:= .type "list",data:= .seq ([]:List Value).toArray } }) hh (hS.keep fun o e=>aT _ e) nd _ hn _ 0 (bZ _ rfl) fun h' d' tk vs ys c' k hl v1 v2=>?_;show wpAny _ A (load s.heap.objs.size >>= _) _ _ _;refine ae (yK hl (aj ?_));exact hQ h' d' tk vs ys (fun b o e=>k b o (bj (aR e)) (aT _ e)) v1 v2
theorem TZ {Q:Value->Shared->Prop} (hh:A.handled=none) (hS:fu P w s.heap a xs) (nd:xs.Nodup) (kH:xs.length<=63)
  (hQ:∀D c h' d' tk (vs:List Value) (ys:List Str),(∀b o,s.heap.get? b=some o->h'.get? b=some o)->(∀b o,s.heap.get? b=some o->b≠D)->h'.get? D=some (listOf vs.toArray c)->StrsAre vs ys->ys.Perm xs->sortedS ys=true->Q (.ref D) { s with heap:=h',drawn:=d',toks:=tk }) :
  wpAny (model P w) A (call (.builtin "sorted") [.ref a]) Q E s:=by
 refine RG kind_sorted plain_sorted entry_sorted (args_sorted1 _) ?_;unfold Builtin.«sorted»;refine ae (m:=checkCount "sorted" 1 1 _) (aj (ae (Ti (by simpa using hh) hS nd fun h1 d1 t1 vs ys k1 v1 p1=>?_)))
 have vl:vs.length=xs.length:=by rw[zx v1,p1.length_eq]
 refine ae (yV ?_ (by rw[aE];omega))
 have fj:(h1.push (seqObj "list" vs.toArray 0)).get? h1.objs.size=some (seqObj "list" vs.toArray 0):=bZ _ rfl;refine ae (cX (jh slot_list_sort ⟨_,fj,rfl⟩ entry_list_sort (list_sort_treeK strKind_oneLt fj v1.keysOf (fun aak aal rest e=>keyKind_strs (by rw[<-e];exact v1)) (by omega) fun fE a1 a2=>⟨_,rfl,?_⟩) (args_list_sort _)))
 obtain⟨eV,b1,b2,b3⟩:=sorted_out_str v1 a1 a2;obtain⟨c,hc⟩:=sortedHeap_at (n:=0) (vs:=vs) (out:=(arrOf fE).map (·.2)) fj;refine aj ⟨_,rfl,hQ _ c _ d1 t1 _ eV (fun b o e=>?_) (fun b o e=>bj (aR (k1 b o e))) (by rw[hc]) b1 (b2.trans p1) b3⟩
 have e1:=k1 b o e;have kJ:=aR e1;rw[sortedHeap_old (bj kJ) (by rw[size_push'];exact sk kJ),Heap.get?_push_ne _ _ _ (bj kJ)]
 exact e1
end
end HS
namespace L2
open PySem PySem.Spec PyProof.Rows PySem.W HS
def n9 (P:Program) (w:World) (a:Addr) (xs:List Str):HO:= .ext fun h=>xs.Nodup/\fu P w h a xs
theorem WH {P:Program}{w:World}{H:Hp}{h:Heap}{a:Addr}{xs:List Str} (nd:xs.Nodup) (x:fu P w h a xs):bu P w H h a (n9 P w a xs):=
 ⟨⟨nd,x⟩,(let ⟨o,_,_,_,e,_⟩:=x;⟨o,e⟩),fun _ _ q k=>⟨q.1,q.2.keep k⟩⟩
theorem Inv.draw {X:Cx}{pins:List (Addr×Obj)}{σ:List (Option V)}{H:Hp}{s:Shared} (I:Inv X pins σ H s) (d:Drawn):Inv X pins σ H { s with drawn:=d }:=⟨I.ok,I.os,I.bare,I.base,I.loc,I.cell,I.free,I.gT,I.pin,I.ar,I.len⟩
theorem Lq:∀ {vs:List Value}{ys:List Str},StrsAre vs ys -> ∀ (i:Nat) (v:Value),vs[i]? = some v -> ∃t,v = .str (ys.getD i "") t
 |_,_,.nil,i,v,h=>by simp at h
 |_,_,.cons y t r,0,v,h=>by simp at h;exact⟨t,by rw[<-h];rfl⟩
 |_,_,.cons y t r,i+1,v,h=>by
  obtain⟨t',e⟩:=Lq r i v (by simpa using h)
  exact⟨t',by rw[e];rfl⟩
section
variable{X:Cx}
theorem CO (hc:X.calm=true):dY X (.type "set") (fun vs H Q=>∃ (p:Addr) (ss:List Str),vs = [.ref p]/\(ak X.K H p (ss.map V.str)\/aG X.K H p (ss.map V.str))/\ss.length<=1000 /\ ∀a ds,H a=none->ds.Nodup->(∀y,y∈ds ↔ y∈ss)->Q (.ref a) (upd H a (n9 X.prog X.w a ds))):=by
 intro pins s σ H vs us Q I r h;obtain⟨p,ss,rfl,hq,h1k,q⟩:=h;obtain⟨u,rfl,rx⟩:=vals1 r;cases rx
 have fin:∀ (its:List Value) {T:String}{ol:Obj},Vals (ss.map V.str) its->Src X.prog X.w T p ol its.toArray.size (fun i v=>its.toArray[i]? = some v)->s.heap.get? p=some ol->wpAny (model X.prog X.w) X.A (call (.type "set") [.ref p]) (EP X pins σ Q) X.xe s:=fun its {T ol} rv C hp=>by
  have st:=B' rv;have hlen:its.length=ss.length:=zx st;refine UP (val:=fun i=>ss.getD i "") (I.ok.hd hc) C hp (fun i v hv=>Lq st i v (by simpa using hv)) (by rw[cQ,hlen];unfold scanBound;omega) fun h' tk x k=>?_
  have kp:∀b o,s.heap.get? b=some o->h'.get? b=some o:=fun b o e=>k b o (aR e) e;have nd:=Lo (fun i=>ss.getD i "") its.toArray.size;refine⟨.ref s.heap.objs.size,_,I.laid (t':=tk) kp (aO _) (WH nd x),rfl,q _ _ (I.ar.fresh (aO _)) nd fun y=>?_⟩;rw[Kz,cQ,hlen]
  constructor
  ·rintro⟨j,hj,rfl⟩
   rw[show ss.getD j "" = ss[j] by simp[hj]]
   exact jf hj
  ·intro hy
   obtain⟨j,hj,e⟩:=List.mem_iff_getElem.mp hy;exact⟨j,hj,by simp[hj,e]⟩
 rcases hq with hq|hq
 ·obtain⟨its,r',pl,hz⟩:=I.list hq
  obtain⟨o,ho,gX,n,hd⟩:=pl.isList;exact fin its r' (src_list gX ⟨n,hd⟩) ho
 ·obtain⟨its,r',pl,hz⟩:=I.tuple hq
  obtain⟨o,ho,gX,n,hd⟩:=pl;exact fin its r' (WG gX ⟨n,hd⟩) ho
theorem Jd:dY X (.builtin "len") (fun vs H Q=>∃ (a:Addr) (ds:List Str),vs = [.ref a]/\H a=some (n9 X.prog X.w a ds)/\Q (.int ds.length) H):=by
 intro pins s σ H vs us Q I r h;obtain⟨a,ds,rfl,hq,q⟩:=h;obtain⟨u,rfl,rx⟩:=vals1 r;cases rx
 obtain⟨⟨nd,o,es,ep,t,ho,hex,hd,nc,iY,hb,hf,hn,_⟩,_⟩:=(show bu X.prog X.w H s.heap a (n9 X.prog X.w a ds) from I.ar a _ hq);refine call_len_set ho hex hd hf (by unfold scanBound at hb;omega) ?_
 rw[<-hn]at q;exact⟨.int es.size,H,I.tok _,⟨_,rfl⟩,q⟩
theorem Sn (hc:X.calm=true):dY X (.builtin "sorted") (fun vs H Q=>∃ (a:Addr) (ds:List Str),vs = [.ref a]/\H a=some (n9 X.prog X.w a ds)/\ds.length<=63 /\ ∀D eV,H D=none->eV.Perm ds->sortedS eV=true->Q (.ref D) (upd H D (.lst (eV.map V.str)))):=by
 intro pins s σ H vs us Q I r h;obtain⟨a,ds,rfl,hq,kH,q⟩:=h;obtain⟨u,rfl,rx⟩:=vals1 r;cases rx
 obtain⟨⟨nd,x⟩,_⟩:=(show bu X.prog X.w H s.heap a (n9 X.prog X.w a ds) from I.ar a _ hq);obtain⟨m,hm,_⟩:=id I.loc;refine TZ (I.ok.hd hc) x nd kH fun D c h' d' tk out ys k hD new st p ya=>?_;obtain⟨hn,I'⟩:=Inv.sorted (t':=tk) (ys:=ys.map V.str) I hm (hm.at' fun o e=>k _ _ e) (fun b o _ e=>k b o e) hD new (Cq st) (by rw[ax,p.length_eq,aE];omega)
 exact⟨.ref D,_,I'.draw d',rfl,q _ ys hn p ya⟩
end
end L2
namespace L2
open PySem PySem.W PySem.Calls PyProof.Rows
section
variable{α β:Type}{n:Nat}{lt:Nat->Nat->Bool}
def lL (lt:Nat->Nat->Bool) (p:Array Nat) (k:Nat):Prop:= ∀i j,i < j->j < k->lt (p.getD i 0) (p.getD j 0)=true
def pW (lt:Nat->Nat->Bool) (p:Array Nat) (k:Nat):Prop:= ∀i j,i < j->j < k->lt (p.getD j 0) (p.getD i 0)=true
theorem Pm.size {p:Array Nat} (h:Pm n p):p.size=n:=by have:=h.length_eq;simpa using this
theorem Pm.ne {p:Array Nat} (h:Pm n p) {i j:Nat} (hi:i < n) (hj:j < n) (e:i≠j):p.getD i 0≠p.getD j 0:=by
 have hs:=h.size;have nd:p.toList.Nodup:=h.nodup_iff.mpr List.nodup_range;intro z;rw[nG,nG,vB (by omega),vB (by omega)]at z
 have z2:p.toList[i]'(by simp;omega)=p.toList[j]'(by simp;omega):=by simpa using z
 exact e ((QM nd).mp z2)
theorem KH {p:Array Nat}{m:Nat} (hm:m<=p.size) (k:Nat) (hk:k < m):(kas_rev p 0 m).getD k 0=p.getD (m - 1 - k) 0:=by
 unfold kas_rev;rw[nG,getElem?_mirror_all hm,aB ⟨bG _,hk⟩,nG,Nat.zero_add]
theorem pW.rev {p:Array Nat}{m:Nat} (hm:m<=p.size) (a:pW lt p m):lL lt (kas_rev p 0 m) m:=fun i j gv hj=>by
 rw[KH hm i (by omega),KH hm j hj]
 exact a _ _ (by omega) (by omega)
theorem KI {p:Array Nat}{k l:Nat} (hk:k < p.size) (hl:l<=k) (i:Nat):(bubble p k (k - l)).getD i 0=if i=l then p.getD k 0 else if l < i/\i<=k then p.getD (i - 1) 0 else p.getD i 0:=by
 rw[nG,getElem?_bubble hk (k - l) (by omega)]
 have:k - (k - l)=l:=by omega
 rw[this]
 by_cases c1:i=l
 ·rw[aB c1,aB c1];exact(nG ..).symm
 ·rw[au c1,au c1]
  by_cases c2:l < i/\i<=k
  ·rw[aB c2,aB c2];exact(nG ..).symm
  ·rw[au c2,au c2];exact(nG ..).symm
end
def gM (p q:Str):Bool:=decide (p.cps.toList < q.cps.toList)
theorem zy (p:Str):gM p p=false:=jd (List.lt_irrefl _)
theorem LV {p q r:Str} (h1:gM p q=true) (h2:gM q r=true):gM p r=true:=gm (List.lt_trans (yZ h1) (yZ h2))
theorem WI {p q:Str} (h:p≠q) (f:gM p q=false):gM q p=true:=by
 refine gm ?_;have h1 : ¬ p.cps.toList < q.cps.toList:=of_decide_eq_false f;have h2:q.cps.toList<=p.cps.toList:=List.not_lt.mp h1
 by_cases z:q.cps.toList < p.cps.toList
 ·exact z
 ·exact absurd (Kw (a:=p) (b:=q) (List.not_lt.mp z) h2) h
theorem UQ {α β:Type}{F:α->β->Prop}{l:List α}{m:List β} (h:Paired F l m) (dl:α) (dm:β) (i:Nat) (hi:i < l.length):F (l.getD i dl) (m.getD i dm):=by
 induction h generalizing i with
 |nil=>exact absurd hi (yX _)
 |cons p _ ih =>
  cases i with
  |zero=>exact p
  |succ i=>exact ih i (Io hi)
theorem Jr {α β γ:Type}{F:α->β->Prop}{f:γ->α}{g:γ->β}:∀ {l:List γ},(∀x∈l,F (f x) (g x))->Paired F (l.map f) (l.map g)
 |[],_=>.nil
 |x::l,h=>.cons (h x aZ) (Jr fun y hy=>h y (bJ _ hy))
theorem XT {lt:Nat->Nat->Bool}{p:Array Nat}{n:Nat} (hs:p.size=n) (a:lL lt p n):p.toList.Pairwise fun i j=>lt i j=true:=by
 rw[List.pairwise_iff_getElem];intro i j hi hj gv;have h1:i < p.size:=by simpa using hi
 have h2:j < p.size:=by simpa using hj
 have:=a i j gv (by omega)
 rw[nG,nG,vB h1,vB h2]at this
 simpa using this
end L2
namespace HS
open PySem PySem.Spec PyProof.Rows PySem.W
section
variable{P:Program}{w:World}{A:Around}{E:Value->Shared->Prop}{s:Shared}
theorem Tj {l:Addr}{vs:List Value}{Q:List Value->Shared->Prop} (ht:IsTup s.heap l vs.toArray) (hz:vs.length<=sizeLine) (q:∀h',(∀b o,s.heap.get? b=some o->h'.get? b=some o)->Q vs { s with heap:=h' }) :
  wpAny (model P w) A (collect (.ref l)) Q E s:=by
 obtain⟨o,ho,hc,n,hd⟩:=id ht;unfold collect;refine ae (yU (gQ RC ?_));rw[je RE _];show wpAny _ A.in1 (newList [] >>= fun z=>again (.builtin "list.__iadd__" ⟨[z,.ref l],[]⟩)) _ _ s;refine ae (yV (aj ⟨kc yY _,gQ RF ?_⟩));rw[je yY _];show wpAny _ _ (Builtin.List.listExtendWith (.ref s.heap.objs.size) (.ref l) (.ref s.heap.objs.size)) _ _ { s with heap:=s.heap.push (seqObj "list" #[] 0) };unfold Builtin.List.listExtendWith;have jY:(s.heap.push (seqObj "list" #[] 0)).get? l=some o:=aT _ ho;refine ae (oP (T:= "tuple") ⟨o,jY,hc⟩ ?_);have t1:(Value.type "tuple" == Value.type "tuple")=true:=by rfl
 rw[aB (by rw[t1];simp)]
 refine ae (listItems_at jY hd (ae (listItems_at (xs:= #[]) (n:=0) (bZ _ rfl) rfl ?_)));rw[au (by simp)]
 refine ae (listUpdate_at (xs:= #[]) (n:=0) (bZ _ rfl) rfl (aj ?_) (bG _) (by show(#[]++vs.toArray).size<=sizeLine+1;simp only[Ia,cQ,yQ];omega))
 show wpAny (model P w) A (load s.heap.objs.size >>= _) Q E { s with heap:=(s.heap.push (seqObj "list" #[] 0)).update s.heap.objs.size (Obj.mapSeq (· ++ vs.toArray)) };refine ae (yK (get?_update_seq (bZ _ rfl) _) ?_);show wpAny _ _ (pure ((#[]:Array Value)++vs.toArray).toList) Q E _;rw[show((#[]:Array Value)++vs.toArray).toList=vs by simp]
 refine aj (q _ fun b ob e=>?_);exact(iM _ _ (lV (aR e))).trans (aT _ e)
end
end HS
namespace L2
open PySem PySem.Spec PyProof.Rows PySem.W HS
section
variable{X:Cx}
theorem XU:cE X (compareOp .Is) (fun x y H Q=>∃a b,x = .bl a/\y = .bl b/\Q (.bl (a==b)) H):=by
 intro pins s σ H x y v u Q I rx ry h;obtain⟨a,b,rfl,rfl,q⟩:=h;cases rx;cases ry
 exact is_bool (cL I q rfl)
theorem YN {ss:List Str} (h:ss.Pairwise fun a b=>gM a b=true):ss.Pairwise rS:=h.imp fun {a b} z=>by
 have:a.cps.toList < b.cps.toList:=yZ z;exact List.le_of_lt this
theorem YO {ss:List Str} (h:ss.Pairwise fun a b=>gM a b=true):ss.Nodup:=h.imp fun {a b} z e=>by
 subst e;rw[zy]at z;cases z
theorem SR {a b:List Str} (ha:sortedS a=true) (hb:b.Pairwise fun x y=>gM x y=true) (p:a.Perm b):a=b:=List.Perm.eq_of_pairwise (fun _ _ _ _ h1 h2=>Kw h1 h2) (TR ha) (YN hb) p
end
end L2
namespace L2
open PySem PySem.Spec PyProof.Rows PySem.W
mutual
inductive Dt (p:Addr) (H:Hp):V->PyData->Prop where
 |aF:Dt p H .aF .none
 |bl (b:Bool):Dt p H (.bl b) (.bool b)
 |int (i:Int):Dt p H (.int i) (.int i)
 |str (x:Str):Dt p H (.str x) (.str x)
 |lst {a:Addr}{xs:List V}{ds:List PyData}:a≠p->H a=some (.lst xs)->fo p H xs ds->Dt p H (.ref a) (.list ds)
 |tup {a:Addr}{xs:List V}{ds:List PyData}:a≠p->H a=some (.tup xs)->fo p H xs ds->Dt p H (.ref a) (.tuple ds)
 |yb {a:Addr}:a≠p->H a=some (.dK [])->Dt p H (.ref a) (.dict [])
inductive fo (p:Addr) (H:Hp):List V->List PyData->Prop where
 |nil:fo p H [] []
 |cons {x:V}{d:PyData}{xs:List V}{ds:List PyData}:Dt p H x d->fo p H xs ds->fo p H (x::xs) (d::ds)
end
section
variable{p:Addr}{H H':Hp}
mutual
theorem Dt.keep (k:∀b o,H b=some o->b≠p->H' b=some o):∀ {v:V}{d:PyData},Dt p H v d->Dt p H' v d
 |_,_,.aF=>.aF
 |_,_,.bl b=>.bl b
 |_,_,.int i=>.int i
 |_,_,.str x=>.str x
 |_,_,.lst n e rs=>.lst n (k _ _ e n) (fo.keep k rs)
 |_,_,.tup n e rs=>.tup n (k _ _ e n) (fo.keep k rs)
 |_,_,.yb n e=>.yb n (k _ _ e n)
theorem fo.keep (k:∀b o,H b=some o->b≠p->H' b=some o):∀ {vs:List V}{ds:List PyData},fo p H vs ds->fo p H' vs ds
 |_,_,.nil=>.nil
 |_,_,.cons r rs=>.cons (Dt.keep k r) (fo.keep k rs)
end
end
end L2
namespace HT
open PySem PyProof.Rows
section
open PySem.SeqAt
open PySem.AutoSeq1 (wpAny_loadPart')
open PySem.MeetsSeq PySem.MeetsSeq2 PySem.MeetsSeq3
variable{A:Around}{s:Shared}
end
end HT
namespace L2
open PySem PySem.Spec PyProof.Rows PySem.W HT
section
variable{X:Cx}{pins:List (Addr×Obj)}{σ:St}{H:Hp}{s:Shared}{p:Addr}
mutual
theorem Dt.reads (I:Inv X pins σ H s):∀ {v:V}{d:PyData}{u:Value},Dt p H v d->RelV v u -> ∃as,Reads s.heap u d as
 |_,_,_,.aF,r=>by cases r;exact⟨_,.none⟩
 |_,_,_,.bl b,r=>by cases r;exact⟨_,.bool b⟩
 |_,_,_,.int i,r=>by obtain⟨t,rfl⟩:=r;exact⟨_,.int i t⟩
 |_,_,_,.str x,r=>by obtain⟨t,rfl⟩:=r;exact⟨_,.str x t⟩
 |_,_,_,.lst (a:=a) (xs:=xs) _ e rs,r=>by
  cases r
  obtain⟨_,its,n,rv,at_⟩:=(show bu X.prog X.w H s.heap a (.lst xs) from I.ar a _ e);obtain⟨as,ra⟩:=fo.reads I rs rv;exact⟨_,.list at_ rfl rfl ra⟩
 |_,_,_,.tup (a:=a) (xs:=xs) _ e rs,r=>by
  cases r
  obtain⟨_,its,rv,ob,at_,hc,n,hd,_⟩:=(show bu X.prog X.w H s.heap a (.tup xs) from I.ar a _ e);obtain⟨as,ra⟩:=fo.reads I rs rv;exact⟨_,.tuple at_ hc hd ra⟩
 |_,_,_,.yb (a:=a) _ e,r=>by
  cases r
  obtain⟨_,_,vs,kv,o,es,ep,g1,g2,g3,_,g4,_⟩:=(show bu X.prog X.w H s.heap a (.dK []) from I.ar a _ e);cases kv
  have e0:es.toList = []:=by cases h:es.toList with
   |nil=>rfl
   |cons a b=>rw[h]at g4;cases g4
  exact⟨_,.dict (kvs:= []) g1 g2.1 g3 (by rw[e0];exact .nil) (by rw[e0];exact .nil)⟩
theorem fo.reads (I:Inv X pins σ H s):∀ {vs:List V}{ds:List PyData}{us:List Value},fo p H vs ds->Vals vs us -> ∃as,ReadsAll s.heap us ds as
 |_,_,_,.nil,r=>by cases r;exact⟨_,.nil⟩
 |_,_,_,.cons r rs,rv=>by
  cases rv with
  |cons q qs =>
   obtain⟨as,h1⟩:=Dt.reads I r q;obtain⟨bs,h2⟩:=fo.reads I rs qs;exact⟨_,.cons h1 h2⟩
end
mutual
theorem Dt.wW (I:Inv X pins σ H s):∀ {v:V}{d:PyData}{u:Value},Dt p H v d->RelV v u->d.showable=true->d.shown.length<=sizeLine -> ∃bs,ReadAtMost s.heap d.depth bs/\ReprK X.prog X.w bs s.heap d.depth u d.shown
 |_,_,_,.aF,r,_,_=>by cases r;exact⟨[],(fun _ h=>nomatch h),by simp only[PyData.shown];exact .of_is ReprIs.none _ _ _⟩
 |_,_,_,.bl b,r,_,_=>by cases r;exact⟨[],(fun _ h=>nomatch h),by simp only[PyData.shown];exact .of_is (ReprIs.bool b) _ _ _⟩
 |_,_,_,.int i,r,hs,_=>by obtain⟨t,rfl⟩:=r;exact⟨[],(fun _ h=>nomatch h),by simp only[PyData.shown];exact .of_is (ReprIs.int t (by simpa [PyData.showable] using hs)) _ _ _⟩
 |_,_,_,.str x,r,_,hz=>by obtain⟨t,rfl⟩:=r;exact⟨[],(fun _ h=>nomatch h),by simp only[PyData.shown];exact .of_is (ReprIs.str x t (by simpa only [PyData.shown] using hz)) _ _ _⟩
 |_,_,_,.lst (a:=a) (xs:=xs) (ds:=ds) n e rs,r,hs,hz=>by
  cases r
  obtain⟨_,its,n',rv,h1⟩:=(show bu X.prog X.w H s.heap a (.lst xs) from I.ar a _ e);have yc:(listText (PyData.shownAll ds)).length<=sizeLine:=by simpa only [PyData.shown] using hz
  obtain⟨bs,hb,hk⟩:=fo.wW I rs rv (by simpa [PyData.showable] using hs) (fun t ht=>dU (listText_mem_le ht) yc)
  obtain⟨as,ra⟩:=fo.reads I rs rv;have r:Reads s.heap (.ref a) (.list ds) _:= .list h1 rfl rfl ra;have Ft:a ∉ bs:=not_mem_of_deeper r (by simp only[PyData.depth];omega) hb
  refine⟨a::bs,RI r (by simp only[PyData.depth];omega) hb,?_⟩
  simp only[PyData.depth,PyData.shown];cases its with
  |nil =>
   cases ra
   simp only[PyData.shownAll,listText_nil];exact ReprK.listEmpty h1 rfl rfl
  |cons x l=>exact ReprK.list h1 rfl rfl Ft (by simpa using hk.length_eq) (fun i y e=>hk.item i y (by simpa using e))
 |_,_,_,.tup (a:=a) (xs:=xs) (ds:=ds) n e rs,r,hs,hz=>by
  cases r
  obtain⟨_,its,rv,ob,h1,h2,n',h3,_⟩:=(show bu X.prog X.w H s.heap a (.tup xs) from I.ar a _ e);have yc:(tupleText (PyData.shownAll ds)).length<=sizeLine:=by simpa only [PyData.shown] using hz
  obtain⟨bs,hb,hk⟩:=fo.wW I rs rv (by simpa [PyData.showable] using hs) (fun t ht=>dU (tupleText_mem_le ht) yc)
  obtain⟨as,ra⟩:=fo.reads I rs rv;have r:Reads s.heap (.ref a) (.tuple ds) _:= .tuple h1 h2 h3 ra;have Ft:a ∉ bs:=not_mem_of_deeper r (by simp only[PyData.depth];omega) hb
  refine⟨a::bs,RI r (by simp only[PyData.depth];omega) hb,?_⟩
  simp only[PyData.depth,PyData.shown];exact ReprK.tuple h1 h2 h3 Ft hk
 |_,_,_,.yb (a:=a) n e,r,hs,hz=>by
  cases r
  obtain⟨as,rd⟩:=Dt.reads I (.yb n e) (rfl:RelV (.ref a) (.ref a));obtain⟨_,ns,vs,kv,o,es,ep,g1,g2,g3,_,g4,_⟩:=(show bu X.prog X.w H s.heap a (.dK []) from I.ar a _ e);cases kv
  have e0:es.toList = []:=by cases h:es.toList with
   |nil=>rfl
   |cons a b=>rw[h]at g4;cases g4
  refine⟨a :: [],RI rd (bG _) (fun _ h=>nomatch h),?_⟩;exact ReprK.dict (as:= []) (d:=0) (ps:= []) g1 g2.1 g3 ns (by simp) (by rw[e0];exact .nil)
theorem fo.wW (I:Inv X pins σ H s):∀ {vs:List V}{ds:List PyData}{us:List Value},fo p H vs ds->Vals vs us->PyData.showableAll ds=true->(∀t∈PyData.shownAll ds,t.length<=sizeLine) ->
  ∃bs,ReadAtMost s.heap (PyData.depthAll ds) bs/\ReprAllK X.prog X.w bs s.heap (PyData.depthAll ds) us (PyData.shownAll ds)
 |_,_,_,.nil,r,_,_=>by cases r;exact⟨[],(fun _ h=>nomatch h),by simp only[PyData.shownAll];exact .nil⟩
 |_,_,_,.cons (d:=d) (ds:=ds) r rs,rv,hs,hz=>by
  cases rv with
  |cons q qs =>
   have kG:d.showable=true/\PyData.showableAll ds=true:=by simpa [PyData.showableAll] using hs
   obtain⟨b1,gL,k1⟩:=Dt.wW I r q kG.1 (hz _ (by simp only[PyData.shownAll];exact aZ ..))
   obtain⟨b2,xH,k2⟩:=fo.wW I rs qs kG.2 (fun t ht=>hz t (by simp only[PyData.shownAll];exact bJ _ ht))
   refine⟨b1++b2,?_,?_⟩
   ·simp only[PyData.depthAll]
    exact(gL.mono (Nat.le_max_left _ _)).append (xH.mono (Nat.le_max_right _ _))
   ·simp only[PyData.depthAll,PyData.shownAll]
    exact .cons ((k1.more fun b hb=>lR _ hb).level_le (Nat.le_max_left _ _)) (k2.more_le (fun b hb=>gk _ hb) (Nat.le_max_right _ _))
end
end
end L2
namespace L2
open PySem PySem.Spec PyProof.Rows PySem.W HT
section
variable{X:Cx}
theorem T8 (hc:X.calm=true):dY X (.type "dict") (fun xs H Q=>∃t vs kvs,xs = [.ref t]/\H t=some (.tup vs)/\wy H vs kvs/\(kvs.map (·.1)).Nodup /\ ∀d,H d=none->Q (.ref d) (upd H d (.dK (qN kvs)))):=by
 intro pins s σ H xs us Q I r h;obtain⟨t,vs,kvs,rfl,ht,pr,nd,q⟩:=h;obtain⟨u,rfl,ru⟩:=vals1 r;cases ru
 obtain⟨hz,its,rv,⟨cl,dd,dt,sl⟩,ho,gX,n,uO,iu⟩:=(show bu X.prog X.w H s.heap t (.tup vs) from I.ar t _ ht);obtain rfl:cl = .type "tuple" :=gX;obtain rfl:dd=none:=iu;obtain rfl:dt = .seq its.toArray n:=uO;have cy:vs.length=kvs.length:=jF pr;have dk:=rv.length;have pairs:∀ (i:Nat) p,kvs[i]? = some p -> ∃a x y,its.toArray[i]? = some (.ref a)/\IsTup s.heap a #[x,y]/\RelV (.str p.1) x/\RelV p.2 y:=by
  intro i p hp;have hi:i < vs.length:=by rw[cy];exact(bU.mp hp).1
  obtain⟨p',AV,a,ey,ha⟩:=lr pr (show vs[i]? = some vs[i] from bH hi);rw[hp]at AV;cases AV;obtain⟨u,hu,ru⟩:=rv.get (show vs[i]? = some (V.ref a) by rw[bH hi,ey])
  cases ru
  obtain⟨i2,r2,t2,_⟩:=I.tuple (aG.of ha);obtain⟨x,y,rfl,rx,ry⟩:=r2.two;exact⟨a,x,y,by simpa using hu,t2,rx,ry⟩
 have ch:∀i:Fin kvs.length,∃y,∃a x,its.toArray[i.1]? = some (.ref a)/\IsTup s.heap a #[x,y]/\RelV (.str kvs[i].1) x/\RelV kvs[i].2 y:=fun i=>by
  obtain⟨a,x,y,h1,h2,h3,h4⟩:=pairs i.1 kvs[i] (bH i.2);exact⟨y,a,x,h1,h2,h3,h4⟩
 obtain⟨ys,Fu,Oo⟩:∃ys:List Value,ys.length=kvs.length /\ ∀ (i:Nat) (hi:i < kvs.length),∃y,ys[i]? = some y /\ ∃a x,its.toArray[i]? = some (.ref a)/\IsTup s.heap a #[x,y]/\RelV (.str kvs[i].1) x/\RelV kvs[i].2 y:=
  ⟨List.ofFn fun i=>Classical.choose (ch i),List.length_ofFn,fun i hi=>⟨Classical.choose (ch ⟨i,hi⟩),by simp[List.getElem?_ofFn,hi],ah8 (ch ⟨i,hi⟩)⟩⟩
 have Fv:((kvs.map fun p=>(Sum.inr p.1:Key)).zip ys).map (·.1)=kvs.map fun p=>(Sum.inr p.1:Key):=by
  rw[RK];rw[ax];omega
 have uV:((kvs.map fun p=>(Sum.inr p.1:Key)).zip ys).length=kvs.length:=by rw[RL,ax];omega
 have inj:(kvs.map fun p=>(Sum.inr p.1:Key)).Nodup:=by
  have:(kvs.map fun p=>(Sum.inr p.1:Key))=(kvs.map (·.1)).map Sum.inr:=by rw[ji];rfl
  rw[this,Iq,sq];exact(Iq.mp nd).imp fun h z=>h (sd z)
 refine Ss (I.ok.hd hc) ((kvs.map fun p=>(Sum.inr p.1:Key)).zip ys) (by rw[Fv];exact inj) (by rw[uV];omega) (by rw[cQ,uV];omega) ho (fun i p hp=>?_) fun d h' tk dl dd kp=>?_
 ·obtain⟨h1,h2⟩:=RM.mp hp
  rw[gA]at h1;obtain⟨kv,hk,ek⟩:=iD.mp h1;obtain⟨hi,rfl⟩:=bU.mp hk;obtain⟨y,hy,a,x,g1,g2,g3,g4⟩:=Oo i hi;rw[hy]at h2;cases h2
  exact⟨a,x,g1,g2,by rw[<-ek];exact tO (k:=Sum.inr kvs[i].1) g3⟩
 ·have big:=I.big
  refine⟨.ref d,_,I.laid (a:=d) (o:= .dK (qN kvs)) (t':=tk) kp dl (Du (by unfold qN;rw[ax];omega) (nB.mpr (aQ (bj (gj big dl)))) ?_ dd),rfl,q d (I.ar.fresh dl)⟩
  exact Lm kvs ys Fu fun i hi=>by
   obtain⟨y,hy,a,x,_,_,_,g4⟩:=Oo i hi;exact⟨y,hy,g4⟩
end
end L2
namespace L2
open PySem PySem.W PySem.Calls PyProof.Rows
structure lC (n:Nat) (lt:Nat->Nat->Bool):Prop where
 tr:∀i j k,i < n->j < n->k < n->lt i j=true->lt j k=true->lt i k=true
 tot:∀i j,i < n->j < n->i≠j->lt i j=false->lt j i=true
def dw {α:Type} (n:Nat) (lt:Nat->Nat->Bool) (φ:α->Prop):KasT α->Prop
 |.ret a=>φ a
 |.ask i j k=>i < n/\j < n/\i≠j/\dw n lt φ (k (lt i j))
section
variable{α β:Type}{n:Nat}{lt:Nat->Nat->Bool}
theorem dw.bind {φ:α->Prop}{ψ:β->Prop}{f:α->KasT β} (g:∀a,φ a->dw n lt ψ (f a)):∀ {t:KasT α},dw n lt φ t->dw n lt ψ (t.bind f)
 |.ret a,h=>g a h
 |.ask _ _ _,h=>⟨h.1,h.2.1,h.2.2.1,dw.bind g h.2.2.2⟩
theorem dw.wp {φ:α->Prop}{cmp:Nat->Nat->(Bool->Shared->Prop)->Shared->Prop}{Q:α->Shared->Prop}{s:Shared} (hc:∀i j C,i < n->j < n->i≠j->C (lt i j) s->cmp i j C s):∀ {t:KasT α},dw n lt φ t->(∀a,φ a->Q a s)->t.kasWp cmp Q s
 |.ret a,h,q=>q a h
 |.ask _ _ _,h,q=>hc _ _ _ h.1 h.2.1 h.2.2.1 (dw.wp hc h.2.2.2 q)
theorem dw.mono {φ ψ:α->Prop} (g:∀a,φ a->ψ a):∀ {t:KasT α},dw n lt φ t->dw n lt ψ t
 |.ret a,h=>g a h
 |.ask _ _ _,h=>⟨h.1,h.2.1,h.2.2.1,dw.mono g h.2.2.2⟩
theorem DK {p:Array Nat} (O:lC n lt) (h:Pm n p) {i j:Nat} (hi:i < n) (hj:j < n) (e:i≠j) (f:lt (p.getD i 0) (p.getD j 0)=false):lt (p.getD j 0) (p.getD i 0)=true:=
 O.tot _ _ (h.lt (by omega) i) (h.lt (by omega) j) (h.ne hi hj e) f
theorem UR {p:Array Nat} (O:lC n lt) (h:Pm n p) {m:Nat} (h1:1<=m) (hm:m < n) (a:lL lt p m) (l:lt (p.getD (m - 1) 0) (p.getD m 0)=true):lL lt p (m+1):=fun i j gv hj=>by
 by_cases e:j < m
 ·exact a i j gv e
 ·obtain rfl:j=m:=by omega
  by_cases e2:i=j - 1
  ·rw[e2];exact l
  ·exact O.tr _ _ _ (h.lt (by omega) _) (h.lt (by omega) _) (h.lt (by omega) _) (a i (j - 1) (by omega) (by omega)) l
theorem US {p:Array Nat} (O:lC n lt) (h:Pm n p) {m:Nat} (h1:1<=m) (hm:m < n) (a:pW lt p m) (l:lt (p.getD m 0) (p.getD (m - 1) 0)=true):pW lt p (m+1):=fun i j gv hj=>by
 by_cases e:j < m
 ·exact a i j gv e
 ·obtain rfl:j=m:=by omega
  by_cases e2:i=j - 1
  ·rw[e2];exact l
  ·exact O.tr _ _ _ (h.lt (by omega) _) (h.lt (by omega) _) (h.lt (by omega) _) l (a i (j - 1) (by omega) (by omega))
theorem CP {p:Array Nat} (O:lC n lt) (h:Pm n p):∀ (f m:Nat),1<=m->m+f<=n->lL lt p m->dw n lt (fun r=>m<=r/\r<=m+f/\lL lt p r/\(r < m+f->lt (p.getD r 0) (p.getD (r - 1) 0)=true)) (kas_asc p f m)
 |0,m,h1,h2,a=>⟨aO _,aO _,a,fun z=>absurd z (by omega)⟩
 |f+1,m,h1,h2,a=>⟨h.lt (by omega) _,h.lt (by omega) _,h.ne (by omega) (by omega) (by omega),by
  cases c:lt (p.getD m 0) (p.getD (m - 1) 0) with
  |true=>exact⟨aO _,by omega,a,fun _=>c⟩
  |false =>
   refine dw.mono (fun r hr=>?_) (CP O h f (m+1) (by omega) (by omega) (UR O h h1 (by omega) a (DK O h (by omega) (by omega) (by omega) c)))
   exact⟨by omega,by omega,hr.2.2.1,fun z=>hr.2.2.2 (by omega)⟩⟩
theorem JY {p:Array Nat} (O:lC n lt) (h:Pm n p):∀ (f m:Nat),1<=m->m+f<=n->pW lt p m->dw n lt (fun r:Array Nat×Nat×Nat=>r.1=p/\r.2.2=0/\m<=r.2.1/\r.2.1<=m+f/\pW lt p r.2.1) (kas_desc f p m 0)
 |0,m,h1,h2,a=>⟨rfl,rfl,aO _,aO _,a⟩
 |f+1,m,h1,h2,a=>⟨h.lt (by omega) _,h.lt (by omega) _,h.ne (by omega) (by omega) (by omega),by
  cases c:lt (p.getD m 0) (p.getD (m - 1) 0) with
  |true =>
   show dw n lt _ (if 0 > 0 then kas_desc f (kas_rev p (m - (0+1)) m) (m+1) 0 else kas_desc f p (m+1) 0);rw[au (by omega)]
   refine dw.mono (fun r hr=>?_) (JY O h f (m+1) (by omega) (by omega) (US O h h1 (by omega) a c))
   exact⟨hr.1,hr.2.1,by omega,by omega,hr.2.2.2.2⟩
  |false =>
   refine⟨h.lt (by omega) _,h.lt (by omega) _,h.ne (by omega) (by omega) (by omega),?_⟩
   rw[DK O h (by omega) (by omega) (by omega) c]
   exact⟨rfl,rfl,aO _,vC _ _,a⟩⟩
def Ad (n:Nat) (lt:Nat->Nat->Bool) (r:Nat×Array Nat):Prop:=Pm n r.2/\lL lt r.2 r.1/\1<=r.1/\r.1<=n
theorem T9 {p:Array Nat} (O:lC n lt) (h:Pm n p) {m:Nat} (h1:1<=m) (h2:m<=n) (a:pW lt p m):dw n lt (Ad n lt) (kas_tail3 m n p):=
 dw.bind (ψ:=Ad n lt) (f:=fun k=>.ret (k,kas_rev p 0 m)) (fun r hr=>(show Ad n lt (r,kas_rev p 0 m) from⟨h.rev _ _,hr.2.2.1,dU h1 hr.1,by have:=hr.2.1;show r<=n;omega⟩)) (CP O (h.rev 0 m) (n - m) m h1 (by omega) (a.rev (by rw[h.size];exact h2)))
theorem T' {p:Array Nat} (O:lC n lt) (hn:2<=n) (h:Pm n p):dw n lt (Ad n lt) (kas_count n p):=
 (CP O h (n - 1) 1 (aO _) (by omega) (fun i j gv hj=>absurd hj (by omega))).bind fun m hm=>by
  obtain⟨m1,m2,ma,ml⟩:=hm;show dw n lt _ (if (m==n)=true then _ else if m > 1 then _ else _);split
  ·rename_i e
   have:m=n:=by simpa using e
   subst this;exact⟨h,ma,m1,aO _⟩
  ·rename_i e
   have ne:m≠n:=by simpa using e
   split
   ·rename_i g
    refine⟨h.lt (by omega) _,h.lt (by omega) _,h.ne (by omega) (by omega) (by omega),?_⟩
    rw[ma 0 (m - 1) (by omega) (by omega)]
    exact⟨h,ma,m1,by omega⟩
   ·obtain rfl:m=1:=by omega
    have l:=ml (by omega)
    have d2:pW lt p 2:=fun i j gv hj=>by
     obtain rfl:j=1:=by omega
     obtain rfl:i=0:=by omega
     exact l
    refine dw.bind (fun r hr=>?_) (JY O h (n - (1+1)) (1+1) (by omega) (by omega) d2)
    obtain⟨r1,r2,r3,r4,r5⟩:=hr;show dw n lt _ (if r.2.2 > 0 then _ else _);rw[au (by omega),r1]
    exact T9 O h (by omega) (by omega) r5
theorem Cc {p:Array Nat} (O:lC n lt) (h:Pm n p) {k:Nat} (hk:k < n) (a:lL lt p k):∀ (f l r:Nat),r - l<=f->l<=r->r<=k->(∀i,i < l->lt (p.getD i 0) (p.getD k 0)=true)->(∀i,r<=i->i < k->lt (p.getD k 0) (p.getD i 0)=true) ->
  dw n lt (fun m=>m<=k/\(∀i,i < m->lt (p.getD i 0) (p.getD k 0)=true) /\ ∀i,m<=i->i < k->lt (p.getD k 0) (p.getD i 0)=true) (kas_place p k f l r)
 |0,l,r,hf,hl,hr,lo,hi=>by
  obtain rfl:l=r:=by omega
  exact⟨hr,lo,hi⟩
 |f+1,l,r,hf,hl,hr,lo,hi=>by
  show dw n lt _ (if l ≥ r then _ else _);split
  ·obtain rfl:l=r:=by omega
   exact⟨hr,lo,hi⟩
  ·refine⟨h.lt (by omega) _,h.lt (by omega) _,h.ne (by omega) (by omega) (by omega),?_⟩
   cases c:lt (p.getD k 0) (p.getD ((l+r) / 2) 0) with
   |true =>
    refine Cc O h hk a f l ((l+r) / 2) (by omega) (by omega) (by omega) lo fun i yd hi2=>?_
    by_cases e:i=(l+r) / 2
    ·rw[e];exact c
    ·exact O.tr _ _ _ (h.lt (by omega) _) (h.lt (by omega) _) (h.lt (by omega) _) c (a _ i (by omega) hi2)
   |false =>
    have c2:=DK O h (i:=k) (j:=(l+r) / 2) hk (by omega) (by omega) c
    refine Cc O h hk a f ((l+r) / 2+1) r (by omega) (by omega) hr (fun i yd=>?_) hi
    by_cases e:i=(l+r) / 2
    ·rw[e];exact c2
    ·exact O.tr _ _ _ (h.lt (by omega) _) (h.lt (by omega) _) (h.lt (by omega) _) (a i _ (by omega) (by omega)) c2
theorem KJ (O:lC n lt):∀ (f:Nat) (p:Array Nat) (k:Nat),k+f=n->Pm n p->lL lt p k->dw n lt (fun r=>Pm n r/\lL lt r n) (kas_bin f p k)
 |0,p,k,e,h,a=>by
  obtain rfl:k=n:=by omega
  exact⟨h,a⟩
 |f+1,p,k,e,h,a=>(Cc O h (by omega) a k 0 k (by omega) (bG _) (aO _) (fun i hi=>absurd hi (yX _)) (fun i h1 h2=>absurd h2 (by omega))).bind fun l hl=>by
  obtain⟨l1,l2,l3⟩:=hl;refine KJ O f _ _ (by omega) (h.bub _ _) fun i j gv hj=>?_
  have hsz:=h.size;rw[KI (by omega) l1 i,KI (by omega) l1 j]
  by_cases i1:i=l
  ·rw[aB i1,au (by omega),aB (by omega)]
   exact l3 _ (by omega) (by omega)
  ·rw[au i1]
   by_cases i2:l < i/\i<=k
   ·rw[aB i2,au (by omega),aB (by omega)]
    exact a _ _ (by omega) (by omega)
   ·rw[au i2]
    by_cases j1:j=l
    ·rw[aB j1];exact l2 i (by omega)
    ·rw[au j1]
     by_cases j2:l < j/\j<=k
     ·rw[aB j2]
      exact a _ _ (by omega) (by omega)
     ·rw[au j2]
      exact a _ _ gv (by omega)
theorem UT (O:lC n lt) (hn:2<=n):dw n lt (fun r=>Pm n r/\lL lt r n) (kas_sort n):=
 (T' O hn (oS _)).bind fun r hr=>by
  obtain⟨r1,r2,r3,r4⟩:=hr;show dw n lt _ (if r.1 < n then _ else _);split
  ·refine KJ O _ _ _ (by omega) r1 ?_
   rw[show max r.1 1=r.1 by omega];exact r2
  ·obtain e:r.1=n:=by omega
   rw[e]at r2;exact⟨r1,r2⟩
end
end L2
namespace L2
open PySem PySem.W PySem.Calls PyProof.Rows HS
def iz:List Str->List Str->Bool
 |a::as,b::bs=>if a=b then iz as bs else gM a b
 |_,_=>false
theorem LW:∀ {a b c:List Str},a.length=b.length->b.length=c.length->iz a b=true->iz b c=true->iz a c=true
 |[],_,_,h1,_,h,_=>by unfold iz at h;cases h
 |a::as,[],_,h1,_,_,_=>by simp at h1
 |a::as,b::bs,[],_,h2,_,_=>by simp at h2
 |a::as,b::bs,c::cs,h1,h2,h3,h4=>by
  unfold iz at h3 h4 ⊢
  by_cases e1:a=b
  ·rw[aB e1]at h3
   subst e1
   by_cases e2:a=c
   ·rw[aB e2]at h4 ⊢;exact LW (by simpa using h1) (by simpa using h2) h3 h4
   ·rw[au e2]at h4 ⊢;exact h4
  ·rw[au e1]at h3
   by_cases e2:b=c
   ·subst e2
    rw[au e1];exact h3
   ·rw[au e2]at h4
    have t:=LV h3 h4
    by_cases e3:a=c
    ·subst e3;rw[zy]at t;cases t
    ·rw[au e3];exact t
theorem Lr:∀ {a b:List Str},a.length=b.length->a≠b->iz a b=false->iz b a=true
 |[],[],_,h,_=>absurd rfl h
 |[],b::bs,h,_,_=>by simp at h
 |a::as,[],h,_,_=>by simp at h
 |a::as,b::bs,h1,h2,h3=>by
  unfold iz at h3 ⊢
  by_cases e:a=b
  ·subst e
   rw[aB rfl]at h3 ⊢;exact Lr (by simpa using h1) (fun z=>h2 (by rw[z])) h3
  ·rw[au e]at h3;rw[au (aQ e)]
   exact WI e h3
theorem zG (a b:Str):iz [a] [b]=gM a b:=by
 unfold iz
 by_cases e:a=b
 ·rw[aB e,e,zy];rfl
 ·rw[au e]
section
variable{P:Program}{w:World}{A:Around}{E:Value->Shared->Prop}{s:Shared}
theorem UU {a b:Str}{t u:Tok}{c:Bool}{Q:Bool->Shared->Prop} (h:Q (gM a b) s):wpAny (model P w) A (oneLt' c (.str a t) (.str b u)) Q E s:=by
 cases c with
 |true=>exact oneLt_str h
 |false =>
  rw[oneLt'_eq];simp only[oO,j'];exact ae (PyProof.Rows.lt_str (lT h))
theorem JZ {b fin:Bool}{Q:Bool->Shared->Prop}:∀ {as bs:List Str}{us vs:List Value}{ru rv:List Value} (i:Nat),StrsAre us as->StrsAre vs bs->as.length=bs.length->as≠bs->Q (iz as bs) s->KatLex P w A b fin Q ((us++ru).zip (vs++rv)) i s
 |[],[],_,_,_,_,_,_,_,_,h,_=>absurd rfl h
 |[],_::_,_,_,_,_,_,_,_,h,_,_=>by simp at h
 |_::_,[],_,_,_,_,_,_,_,h,_,_=>by simp at h
 |a::as,b'::bs,_,_,ru,rv,i,.cons _ t h1,.cons _ u h2,hl,bx,q=>by
  unfold iz at q;refine kat_cons (wpAny_eqBool_str ?_)
  by_cases e:a=b'
  ·rw[gm e]
   rw[aB e]at q;exact kat_yes (JZ (i+1) h1 h2 (by simpa using hl) (fun z=>bx (by rw[e,z])) q)
  ·rw[jd e]
   rw[au e]at q;exact kat_no (UU q)
end
def wz (H:Hp) (m:Nat) (vs:List V) (kvs:List (List Str×List V)):Prop:=Paired (fun y p=>∃a,y=V.ref a/\H a=some (.tup (p.1.map V.str++p.2))/\p.1.length=m) vs kvs
theorem Js {H:Hp}:∀ {ks:List Str}{rest:List V}{its:List Value},Vals (ks.map V.str++rest) its -> ∃us ru,its=us++ru/\StrsAre us ks
 |[],rest,its,h=>⟨[],its,rfl,.nil⟩
 |k::ks,rest,its,h=>by
  cases h with
  |cons r t =>
   obtain⟨tk,rfl⟩:=r;obtain⟨us,ru,e,st⟩:=Js (H:=H) t;exact⟨.str k tk::us,ru,by rw[e];rfl,.cons k tk st⟩
section
variable{X:Cx}
theorem vG:dY X (.builtin "sorted") (fun xs H Q=>∃ (p:Addr) (ys:List V) (kvs:List (List Str×List V)) (m:Nat),xs = [.ref p]/\(ak X.K H p ys\/aG X.K H p ys)/\wz H m ys kvs/\1<=m/\(kvs.map (·.1)).Nodup/\ys.length<=63 /\
  ∀D cq eJ,H D=none->cq.Perm ys->wz H m cq eJ->eJ.Perm kvs->(eJ.map (·.1)).Pairwise (fun a b=>iz a b=true)->Q (.ref D) (upd H D (.lst cq))):=by
 intro pins s σ H xs us Q I r ⟨p,ys,kvs,mm,ex,hq,pr,hm1,nd,kH,q⟩;subst ex;obtain⟨u,rfl,rx⟩:=vals1 r;cases rx
 obtain⟨its,rv,hz,col⟩:∃its:List Value,Vals ys its/\ys.length<=sizeLine /\ ∀ (A:Around) (E:Value->Shared->Prop) (Q':List Value->Shared->Prop),(∀h',(∀b o,s.heap.get? b=some o->h'.get? b=some o)->Q' its { s with heap:=h' })->wpAny (model X.prog X.w) A (collect (.ref p)) Q' E s:=by
  rcases hq with hq|hq
  ·obtain⟨its,rv,pl,hz⟩:=I.list hq
   have:=rv.length;refine⟨its,rv,hz,fun A E Q' q'=>collect_list pl.isList (q' _ fun b o e=>?_) (by rw[aE];omega)⟩
   exact(iM _ _ (lV (aR e))).trans (aT _ e)
  ·obtain⟨its,rv,pl,hz⟩:=I.tuple hq
   have:=rv.length;exact⟨its,rv,hz,fun A E Q' q'=>Tj pl (by rw[aE];omega) q'⟩
 have cy:ys.length=kvs.length:=jF pr;have dk:=rv.length;have at_:∀ (i:Nat),i < its.length -> ∃ (ks:List Str) (a:Addr) (tu ru:List Value),(kvs.map (·.1))[i]? = some ks/\its[i]? = some (.ref a)/\a≠X.env.locals/\IsTup s.heap a (tu++ru).toArray/\StrsAre tu ks/\ks.length=mm:=by
  intro i hi;have ye:i < ys.length:=by omega
  obtain⟨p',AV,a,ey,ha,hlm⟩:=lr pr (show ys[i]? = some ys[i] from bH ye);obtain⟨u,hu,ru⟩:=rv.get (show ys[i]? = some (V.ref a) by rw[bH ye,ey])
  cases ru
  obtain⟨i2,r2,t2,_⟩:=I.tuple (aG.of ha);obtain⟨tu,ru,e,st⟩:=Js (H:=H) r2;rw[e]at t2;exact⟨p'.1,a,tu,ru,by rw[gA,AV];rfl,hu,(fun z=>by rw[z,I.free]at ha;cases ha),t2,st,hlm⟩
 obtain⟨m,hm,_⟩:=id I.loc
 let lt:Nat->Nat->Bool:=fun i j=>iz ((kvs.map (·.1)).getD i []) ((kvs.map (·.1)).getD j [])
 have kl:(kvs.map (·.1)).length=its.length:=by rw[ax];omega
 have ua:∀i,i < its.length->((kvs.map (·.1)).getD i []).length=mm:=fun i hi=>by
  obtain⟨ks,_,_,_,h1,_,_,_,_,h2⟩:=at_ i hi;rw[jJ,h1];exact h2
 have pX:∀i j,i < its.length->j < its.length->i≠j->(kvs.map (·.1)).getD i []≠(kvs.map (·.1)).getD j []:=fun i j hi hj gv e=>gv ((List.getElem?_inj (by omega) nd).mp (by
  rw[jJ,jJ,bH (by omega),bH (by omega)]at e
  rw[bH (by omega),bH (by omega)]
  exact eO some e))
 have O:lC its.length lt:=⟨fun i j k hi hj hk h1 h2=>LW ((ua i hi).trans (ua j hj).symm) ((ua j hj).trans (ua k hk).symm) h1 h2,fun i j hi hj gv f=>Lr ((ua i hi).trans (ua j hj).symm) (pX i j hi hj gv) f⟩;have fin:∀ (h':Heap) (D:Addr) (c:Nat) (pa:Array Nat),(∀b o,b≠X.env.locals->s.heap.get? b=some o->h'.get? b=some o)->h'.Ns X.env.locals m->(∀b o,s.heap.get? b=some o->b≠D)->Pm its.length pa->(pa.toList.Pairwise fun i j=>lt i j=true) ->
   h'.get? D=some (listOf (pa.toList.map fun i=>its.getD i Value.none).toArray c) -> ∃v H',Inv X pins σ H' { s with heap:=h' }/\RelV v (.ref D)/\Q v H':=by
  intro h' D c pa k i6 hD hp ya new;have AS:∀i∈pa.toList,i < its.length:=fun i hi=>nC.mp (hp.mem_iff.mp hi);have py:(pa.toList.map fun i=>ys.getD i V.aF).Perm ys:=LU V.aF (by rw[dk];exact hp)
  have pY:Pm kvs.length pa:=by rw[<-cy,dk];exact hp
  have pk:(pa.toList.map fun i=>kvs.getD i (([],[]):List Str×List V)).Perm kvs:=LU _ pY;have pp:wz H mm (pa.toList.map fun i=>ys.getD i V.aF) (pa.toList.map fun i=>kvs.getD i ([],[])):=Jr fun i hi=>UQ pr V.aF ([],[]) i (by have:=AS i hi;omega)
  have ek:(pa.toList.map fun i=>kvs.getD i ([],[])).map (·.1)=pa.toList.map fun i=>(kvs.map (·.1)).getD i []:=by
   rw[ji];refine y4 fun i hi=>?_;have:i < kvs.length:=by have:=AS i hi;omega
   show(kvs.getD i ([],[])).1=_;rw[jJ,jJ,gA,bH this];rfl
  have rel:Vals (pa.toList.map fun i=>ys.getD i V.aF) (pa.toList.map fun i=>its.getD i Value.none):=JT (fun i=>by
   by_cases hi:i < ys.length
   ·obtain⟨u,hu,ru⟩:=rv.get (show ys[i]? = some ys[i] from bH hi)
    rw[jJ,jJ,hu,bH hi];exact ru
   ·rw[jJ,jJ,Ih (by omega),Ih (by omega)];trivial) pa.toList
  obtain⟨hn,I'⟩:=Inv.sorted (t':=s.toks) I hm i6 k hD new rel (by rw[py.length_eq];exact hz)
  refine⟨.ref D,_,I',rfl,q D _ _ hn py pp pk ?_⟩;rw[ek,sq];exact ya
 refine RG kind_sorted plain_sorted entry_sorted (args_sorted1 _) ?_;unfold Builtin.«sorted»;refine ae (m:=checkCount "sorted" 1 1 _) (aj (ae (col _ _ _ fun h1 k1=>?_)));refine ae (yV ?_ (by rw[aE];omega))
 have fj:(h1.push (seqObj "list" its.toArray 0)).get? h1.objs.size=some (seqObj "list" its.toArray 0):=bZ _ rfl;have hD:∀b o,s.heap.get? b=some o->b≠h1.objs.size:=fun b o e=>bj (aR (k1 b o e));refine ae (cX (jh slot_list_sort ⟨_,fj,rfl⟩ entry_list_sort ?_ (args_list_sort _)));have keep:∀b o,s.heap.get? b=some o->(h1.push (seqObj "list" its.toArray 0)).get? b=some o:=fun b o e=>aT _ (k1 b o e)
 by_cases h2:its.length < 2
 ·refine UO fj h2 fun c g kg new=>⟨_,rfl,aj ⟨_,rfl,?_⟩⟩
  refine fin g _ c (List.range its.length).toArray (fun b o _ e=>kg b o (hD b o e) (keep b o e)) (hm.at' fun o e=>kg _ o (hD _ o e) (keep _ o e)) hD (oS _) ?_ ?_
  ·show(List.range its.length).Pairwise _
   have:its.length=0\/its.length=1:=by omega
   rcases this with z|z <;> rw[z]
   ·exact List.Pairwise.nil
   ·exact List.pairwise_singleton _ _
  ·have:(List.range its.length).map (fun i=>its.getD i Value.none)=its:=by
    apply Rt
    ·simp
    ·intro i h1 h2;simp[List.getD,h2]
   show g.get? h1.objs.size=some (listOf ((List.range its.length).map fun i=>its.getD i Value.none).toArray c);rw[this];exact new
 ·have h2:2<=its.length:=by omega
  obtain⟨g0,hg0,AW⟩:∃g0:Heap,g0.objs.size=0 /\ ∀b,g0.get? b=none:=⟨{ s.heap with objs:= #[] },rfl,fun b=>Bz (bG _)⟩;have F:Fr g0 X.env.locals s.heap m:=⟨hm,fun b o e=>(by rw[AW]at e;cases e),by rw[hg0];exact bG _⟩
  have N:=Vj (g:=g0) (L:=X.env.locals) (h:=s.heap);have Fw:∃o,s.heap.get? X.env.locals=some o:=let ⟨o,_,_,e,_⟩:=hm;⟨o,e⟩;obtain⟨oL,eL⟩:=Fw;refine kat_list_sort (s:={ s with heap:=h1.push (seqObj "list" its.toArray 0) }) (F.kept keep) (N.grown keep) fj (aQ (hD _ _ eL)) (AW _) (fun p hp=>hD p.1 p.2 (BY hp).2.2) h2 (by omega) fun e1 h' F' N'=>?_
  have kp:∀b o,b≠X.env.locals->s.heap.get? b=some o->h'.get? b=some o:=fun b o n e=>(N' (b,o) (bJ _ (IW n (AW b) e))).1;have tk:∀ {a:Addr}{zs:Array Value},a≠X.env.locals->IsTup s.heap a zs->IsTup h' a zs:=fun n ⟨o,ho,r⟩=>⟨o,kp _ o n ho,r⟩;have ft:∀ (vs:List Value),(∀v∈vs,∃a tu ru ks,v=Value.ref a/\IsTup h' a (tu++ru).toArray/\StrsAre tu ks/\ks.length=mm) -> ∃fs,fs.length=vs.length/\KatTups h' vs fs /\ ∀f∈fs,∃k t,f=Value.str k t:=by
   intro vs
   induction vs with
   |nil=>intro _;exact⟨[],rfl,KatTups.nil,fun f hf=>(by cases hf)⟩
   |cons v vs ih =>
    intro hv;obtain⟨fs,f1,f2,f3⟩:=ih fun v' h'=>hv v' (bJ _ h');obtain⟨a,tu,ru,ks,rfl,⟨o,ho,hc,n,hd⟩,st,hkm⟩:=hv v aZ;cases st with
    |nil=>simp at hkm;omega
    |cons k t r =>
     refine⟨.str k t::fs,by rw[d4,d4,f1],KatTups.cons ho hc hd (by simp) f2,fun f hf=>?_⟩
     rcases a9.mp hf with z|z
     ·exact⟨k,t,z⟩
     ·exact f3 f z
  obtain⟨fs,ou,rQ,gI⟩:=ft its fun v hv=>by
   obtain⟨i,hi,rfl⟩:=vz hv;obtain⟨ks,a,tu,ru,_,g2,g3,g4,g5,g6⟩:=at_ i hi;rw[bH hi]at g2;exact⟨a,tu,ru,ks,gy g2,tk g3 g4,g5,g6⟩
  refine kat_kind (T:= .type "str") rQ (by omega) (fun f hf=>?_) (by decide) ?_
  ·obtain⟨k,t,rfl⟩:=gI f hf
   exact Looks.of_pure rfl
  ·refine(UT O h2).wp (fun i j C hi hj gv hC=>?_) fun pa hp=>?_
   ·obtain⟨k,a,tu,ru,g1,g2,g3,g4,g5,g6⟩:=at_ i hi
    obtain⟨k',a',tu',ru',g1',g2',g3',g4',g5',g6'⟩:=at_ j hj;unfold kas_ask;rw[jJ,jJ,g2,g2'];have ei:(kvs.map (·.1)).getD i []=k:=by rw[jJ,g1];rfl
    have ej:(kvs.map (·.1)).getD j []=k':=by rw[jJ,g1'];rfl
    have el:lt i j=iz k k':=by show iz ((kvs.map (·.1)).getD i []) ((kvs.map (·.1)).getD j [])=_;rw[ei,ej]
    have ne:=pX i j hi hj gv;rw[ei,ej]at ne;rw[el]at hC;obtain⟨ox,hx,_,nx,dx⟩:=tk g3 g4;obtain⟨oy,hy,_,ny,dy⟩:=tk g3' g4';exact kat_lt hx dx hy dy (JZ 0 g5 g5' (g6.trans g6'.symm) ne hC)
   ·refine KasFin.intro F' N' (UpdF.head fun p hp=>?_) fun iw c F'' Oq=>?_
    ·exact hD p.1 p.2 (BY hp).2.2
    ·refine⟨_,rfl,aj ⟨_,rfl,?_⟩⟩
     exact fin iw _ c pa (fun b o n e=>(Oq (b,o) (bJ _ (IW n (AW b) e))).1) F''.ns hD hp.1 (XT hp.1.size hp.2) (Oq _ aZ).1
end
end L2
namespace L2
open PySem PySem.W
end L2
namespace HS
open PySem PySem.Spec PyProof.Rows PySem.W
end HS
namespace L2
open PySem PySem.Spec PyProof.Rows PySem.W HS
end L2
namespace L2
open PySem PySem.W PySem.Spec PyProof.Rows
end L2
namespace L2
open PySem PySem.W
end L2
namespace L2
open PySem PySem.W PySem.Spec PyProof.Rows
def fw (h:Heap) (d:Addr) (es:Array DictEntry) (ep:Nat):Prop:= ∃o,h.get? d=some o/\o.ExactDict/\o.data = .dict es ep
theorem fw.ty {s:Shared}{d:Addr}{es:Array DictEntry}{ep:Nat} (x:fw s.heap d es ep):s.TypeIs (.ref d) "dict" :=let ⟨o,e,c,_⟩:=x;⟨o,e,c.1⟩
section
variable{P:Program}{w:World}{A:Around}{E:Value->Shared->Prop}{s:Shared}
theorem VP {d:Addr}{es:Array DictEntry}{ep:Nat}{Q:Value->Shared->Prop} (hd:(d==sysModules)=false) (x:fw s.heap d es ep)
  (q:Q (.ref s.heap.objs.size) { s with heap:=s.heap.push { cls:= .type "dict_keyiterator",data:= .fields #[.ref d,.int 0 0,.int es.size 0,.int ep 0] } }):wpAny (model P w) A (pyIter (.ref d)) Q E s:=by
 have hT:=x.ty;obtain⟨o,ho,hx,Ae⟩:=x;refine Ip hT F.slot_dict_iter (jh F.slot_dict_iter hT F.entry_dict_iter ?_ (F.args_dict_iter_1 _));unfold Builtin.«dict.__iter__»;refine ae ?_;unfold Builtin.Dict.dictSlotNone;refine ae (Rr hT ?_);show wpAny _ _ (pure (Value.ref d)) _ _ s;refine aj ?_;show wpAny _ _ (Builtin.Dict.showsAll d >>= _) _ _ s;unfold Builtin.Dict.showsAll;rw[au (by rw[hd];exact cP)]
 refine ae (aj (ae (RN ho Ae (ae (RO ho Ae ?_)))));exact ae (j9 (aj ⟨_,rfl,"dict_keyiterator",_,⟨_,bZ _ rfl,rfl⟩,BS.lookup,q⟩))
end
end L2
namespace HT
open PySem PyProof.Rows PySem.W
open PySem.AutoSeq1 (wpAny_loadPart')
end HT
namespace L2
open PySem PySem.Spec PyProof.Rows PySem.W HT
theorem zg {h g:Heap}{it t:Addr}{i:Nat} (x:h.IsListIter it t i) (k:∀o,h.get? it=some o->g.get? it=some o):g.IsListIter it t i:=let ⟨o,e,r⟩:=x;⟨o,k o e,r⟩
end L2
namespace L2
open PySem PySem.Spec PyProof.Rows PySem.W
def gb (h:Heap) (a:Addr) (v:Value):Prop:= ∃o vs,h.get? a=some o/\o.data = .fields vs/\vs[2]? = some v
theorem gb.keep {h h':Heap}{a:Addr}{v:Value} (l:gb h a v) (k:∀o,h.get? a=some o->h'.get? a=some o):gb h' a v:=let ⟨o,vs,e,r⟩:=l;⟨o,vs,k o e,r⟩
theorem gb.lt {h:Heap}{a:Addr}{v:Value} (l:gb h a v):a < h.objs.size:=let ⟨_,_,e,_⟩:=l;aR e
def ip (h:Heap) (x:Option Value):Prop:=x=none \/ ∃a,x=some (.ref a)/\(gb h a .none \/ ∃c,gb h a (.ref c)/\c≠a/\gb h c .none)
theorem ip.keep {h h':Heap}{x:Option Value} (t:ip h x) (k:∀b v,gb h b v->gb h' b v):ip h' x:=by
 rcases t with rfl|⟨a,rfl,l|⟨c,l,n,m⟩⟩
 ·exact .inl rfl
 ·exact .inr ⟨a,rfl,.inl (k _ _ l)⟩
 ·exact .inr ⟨a,rfl,.inr ⟨c,k _ _ l,n,k _ _ m⟩⟩
section
variable{P:Program}{w:World}{A:Around}{E:Value->Shared->Prop}{s:Shared}{α:Type}
theorem Ua {e:Addr}{o:Obj}{vs:Array Value}{Q:α->Shared->Prop} (t:ip s.heap A.handled) (eo:s.heap.get? e=some o) (ed:o.data = .fields vs) (e2:2 < vs.size) (new:∀a,A.handled=some (.ref a)->a≠e /\ ¬ gb s.heap a (.ref e))
  (q:∀h',(∀b,b≠e->h'.get? b=s.heap.get? b)->(∃o',h'.get? e=some o'/\o'.cls=o.cls)->E (.ref e) { s with heap:=h' }):wpAny (model P w) A (raiseNew (.ref e):Sem α) Q E s:=by
 unfold raiseNew;refine ae (Ij ?_);have fin:∀a,wpAny (model P w) A (do updateField e 2 (.ref a);(throw (Value.ref e):Sem α)) Q E s:=fun a=>by
  refine ae (show wpAny _ _ (setField (.ref e) 2 (.ref a)) _ _ _ from qr eo ed e2 (sh (q _ (fun b hb=>iM _ _ (aQ hb)) ⟨_,lW _ eo (Ro (BO ed _)),Obj.cls_mapFields ..⟩)))
 rcases t with t|⟨a,t,l⟩
 ·rw[t]
  exact ae (aj (sh (q s.heap (fun b _=>rfl) ⟨o,eo,rfl⟩)))
 ·obtain⟨nae,nlk⟩:=new a t
  rw[t];show wpAny _ _ (if (Value.ref a != Value.ref e)=true then _ else _) _ _ _;rw[aB (show(Value.ref a != Value.ref e)=true by simp;exact nae)]
  refine ae (cX (yU (gQ B3 ?_)));unfold Builtin.«proto.unchain»;rcases l with⟨oa,va,ha,da,xa⟩|⟨c,⟨oa,va,ha,da,xa⟩,Fx,oc,vc,hc,dc,xc⟩
  ·refine ae (eQ ha da xa ?_)
   rw[aB (show(Value.none==Value.none)=true by decide)]
   refine ae (aj (aj ?_));exact fin a
  ·refine ae (eQ ha da xa ?_)
   have nce:c≠e:=fun z=>nlk ⟨oa,va,ha,da,by rw[xa,z]⟩
   rw[au (show ¬ (Value.ref c==Value.none)=true from cP)];rw[au (show ¬ (Value.ref c==Value.ref e)=true by simp;exact nce),au (show ¬ (Value.ref c==Value.ref a)=true by simp;exact Fx)]
   refine ae (aj (aj ⟨HQ _ (by decide +kernel),gQ B3 ?_⟩))
   unfold Builtin.«proto.unchain»;refine ae (eQ hc dc xc ?_);rw[aB (show(Value.none==Value.none)=true by decide)]
   refine ae (aj (aj ?_));exact fin a
theorem J0 {Q:α->Shared->Prop} (t:ip s.heap A.handled) (q:∀h' e,(∀b o,s.heap.get? b=some o->h'.get? b=some o)->(∃o,h'.get? e=some o/\o.cls = .type "StopIteration")->E (.ref e) { s with heap:=h' }) :
  wpAny (model P w) A (newExc (.type "StopIteration") [] >>= fun e=>(raiseNew e:Sem α)) Q E s:=by
 refine ae ?_;simp only[newExc,newTuple];refine ae (j9 ?_ (by size_fits))
 refine ae (m:=firstArgMember _ _) (Il (a:=Value.none) (by first|rfl|(simp only[firstArgMember];rfl)) ?_)
 refine j9 ?_ (by size_fits)
 generalize eh:s.heap.push _=h1;have k1:∀b o,s.heap.get? b=some o->h1.get? b=some o:=fun b o z=>by rw[<-eh];exact aT _ z
 generalize eo:(Obj.mk _ _ _ _:Obj)=ob;have k2:∀b o,s.heap.get? b=some o->(h1.push ob).get? b=some o:=fun b o z=>aT _ (k1 b o z);have fj:(h1.push ob).get? h1.objs.size=some ob:=bZ _ (by rw[<-eo];rfl)
 have ne:∀b o,s.heap.get? b=some o->b≠h1.objs.size:=fun b o z=>bj (aR (k1 b o z));refine Ua (o:=ob) (vs:=_) (t.keep fun b v l=>l.keep fun o z=>k2 b o z) fj (by rw[<-eo]) (by simp[ownMembersOf]) (fun a ha=>?_) fun h' ot ⟨o',e',c'⟩=>?_
 ·have la:∃v,gb s.heap a v:=by
   rcases t with t|⟨a',t,l⟩
   ·rw[t]at ha;cases ha
   ·rw[t]at ha;cases ha
    rcases l with l|⟨c,l,_⟩
    ·exact⟨_,l⟩
    ·exact⟨_,l⟩
  obtain⟨v,o,vs,e,d,x⟩:=la;refine⟨ne a o e,fun⟨o2,vs2,e2,d2,x2⟩=>?_⟩;rw[k2 a o e]at e2;cases e2;rw[d]at d2;cases d2;rw[x]at x2;rcases t with t|⟨a',t,l⟩
  ·rw[t]at ha;cases ha
  ·rw[t]at ha;cases ha
   rcases l with⟨o3,v3,e3,d3,x3⟩|⟨c,⟨o3,v3,e3,d3,x3⟩,_,lc⟩
   ·rw[e]at e3;cases e3
    rw[d]at d3;cases d3;rw[x]at x3;cases x3;cases x2
   ·rw[e]at e3;cases e3
    rw[d]at d3;cases d3;rw[x]at x3;cases x3;cases x2;exact absurd rfl (bj (gj lc.lt (by rw[<-eh,jH];exact oN _)))
 ·refine q h' _ (fun b o z=>(ot b (ne b o z)).trans (k2 b o z)) ⟨o',e',c'.trans (by rw[<-eo])⟩
theorem VQ {h:Heap}{b it:Addr}{v:Value}{f:Obj->Obj} (l:gb h b v) (n:b≠it):gb (h.update it f) b v:=l.keep fun o e=>(iM _ _ (aQ n)).trans e
theorem ip.upd {h:Heap}{x:Option Value}{it:Addr}{f:Obj->Obj} (t:ip h x) (n:∀b v,gb h b v->b≠it):ip (h.update it f) x:=t.keep fun b v l=>VQ l (n b v l)
theorem two_fields {h:Heap}{it:Addr}{o:Obj}{x y:Value} (ho:h.get? it=some o) (hd:o.data = .fields #[x,y]):∀b v,gb h b v->b≠it:=fun b v ⟨o2,vs,e,d,x2⟩ z=>by
 rw[z,ho]at e;cases e;rw[hd]at d;cases d;cases x2
theorem KL (a:Addr) : ¬ ((Value.ref a==Value.none)=true):=cP
theorem UW {it l:Addr}{i:Nat}{items:Array Value}{Q:Value->Shared->Prop} (t:ip s.heap A.handled) (hit:s.heap.IsListIter it l i) (hl:s.heap.IsList l items) (hx:items[i]? = none)
  (q:∀h' e,Heap.ExtBut it s.heap h'->(∃o,h'.get? e=some o/\o.cls = .type "StopIteration")->E (.ref e) { s with heap:=h' }):wpAny (model P w) A (Builtin.SmallTypes.nextOf (.ref it)) Q E s:=by
 have ty:=hit.typeIs;obtain⟨o,ho,_,hd⟩:=hit;obtain⟨_,g1,_,_,g2⟩:=hl;have nl:=two_fields ho hd;unfold Builtin.SmallTypes.nextOf;refine ae (qt (name:=Str.ofString "__next__") ty slot_listiter_next (jh slot_listiter_next ty entry_listiter_next (show wpAny _ _ (field (.ref it) 0 >>= _) _ _ s from ?_) (args_listiter_next _)));refine ae (eQ ho hd (x:= .ref l) rfl (show wpAny _ _ (if (Value.ref l==Value.none)=true then _ else _) _ _ s from ?_));rw[au (KL l)];refine ae (m:=field (.ref it) 1) (eQ ho hd (x:= .int i 0) rfl (ae (m:=seqItems? (.ref l)) (nF g1 g2 ?_)));simp only[nE,hx];refine ae (lU (ae (qr ho hd (by simp) ?_)))
 refine J0 (A:=A.in1) (t.upd nl) fun h' e k st=>?_;exact q h' e (fun b ob n z=>k b ob ((iM _ _ (aQ n)).trans z)) st
theorem VR {it t:Addr}{i:Nat}{items:Array Value}{Q:Option Value->Shared->Prop} (tl:ip s.heap A.handled) (hit:IsTupIter s.heap it t i) (ht:IsTup s.heap t items) (hx:items[i]? = none)
  (q:∀h',Heap.ExtBut it s.heap h'->Q none { s with heap:=h' }):wpAny (model P w) A (pyNext (.ref it)) Q E s:=by
 have ty:=hit.typeIs;obtain⟨o,ho,_,hd⟩:=hit;obtain⟨_,g1,_,_,g2⟩:=ht;have nl:=two_fields ho hd;unfold pyNext;refine ae (sf (qt (name:=Str.ofString "__next__") ty slot_tupleiter_next (jh slot_tupleiter_next ty entry_tupleiter_next (show wpAny _ _ (field (.ref it) 0 >>= _) _ _ s from ?_) (args_tupleiter_next _))));refine ae (eQ ho hd (x:= .ref t) rfl (show wpAny _ _ (if (Value.ref t==Value.none)=true then _ else _) _ _ s from ?_));rw[au (KL t)];refine ae (m:=field (.ref it) 1) (eQ ho hd (x:= .int i 0) rfl (ae (m:=seqItems? (.ref t)) (nF g1 g2 ?_)));simp only[nE,hx];refine ae (lU (ae (qr ho hd (by simp) ?_)))
 refine J0 (A:=A.in1) (tl.upd nl) fun h' e k st=>?_;exact ae (BQ (T:= "StopIteration") (b:=true) st Im (aj (q h' fun b ob n z=>k b ob ((iM _ _ (aQ n)).trans z))))
theorem WJ {env:Env}{elts:List Expr}{k:Nat}{pos:Pos}{t:Addr}{items:Array Value}{Q:Unit->Shared->Prop} (tl:ip s.heap A.handled) (ht:IsTup s.heap t items)
  (hn:(assignEach elts env).length=items.size) (hs:(assignEach elts env).findIdx? (·.1)=none)
  (q:∀h',Heap.ExtBut s.heap.objs.size s.heap h'->wpAny (model P w) A (assignInOrder ((assignEach elts env).map (·.2)) items.toList) Q E { s with heap:=h' }) :
  wpAny (model P w) A (assign (.Tuple elts k pos) env (.ref t)) Q E s:=by
 have nt:t≠s.heap.objs.size:=let ⟨_,g,_⟩:=ht;bj (aR g);rw[assign_Tuple];refine ae (oG ?_);unfold unpack;rw[hn,hs];refine ae (cX ?_);unfold unpackItems notIterableAtAll;refine ae (ae (Rg ht.typeIs slot_tuple_iter.lookup (aj ?_)));simp only[oO,j'];refine ae (cX (iter_tuple ht (ae (cX (draw_tuple nt items.size 0 _ _ ⟨_,bZ _ rfl,rfl,rfl⟩ (ht.push _) (Nat.le_of_eq (Nat.zero_add _)) fun h1 i1 s1=>?_)))));rw[au (by simp)]
 have al:(items.toList.drop 0).take items.size=items.toList:=Ir (by simp)
 have lk:∀b v,gb s.heap b v->gb h1 b v:=fun b v l=>l.keep fun o e=>(s1.2 b (bj (aR e))).trans (aT _ e);refine ae (cX (VR (s:={ s with heap:=h1 }) (tl.keep lk) i1 ((ht.push _).extBut s1.extBut nt) (by simp) fun h2 x2=>?_))
 simp only[Option.isSome_none,oO,j'];rw[al];exact aj (q h2 fun b o hb e=>x2 b o hb (s1.extBut b o hb (aT _ e)))
end
theorem ip.YQ {h h':Heap}{x:Option Value} (t:ip h x) (k:∀b v,v ≠ .bool false->gb h b v->gb h' b v):ip h' x:=by
 rcases t with rfl|⟨a,rfl,l|⟨c,l,n,m⟩⟩
 ·exact .inl rfl
 ·exact .inr ⟨a,rfl,.inl (k _ _ (fun z=>by cases z) l)⟩
 ·exact .inr ⟨a,rfl,.inr ⟨c,k _ _ (fun z=>by cases z) l,n,k _ _ (fun z=>by cases z) m⟩⟩
section
variable{P:Program}{w:World}{A:Around}{E:Value->Shared->Prop}{s:Shared}
theorem VS {z TI TO i1 i2 l1 l2:Addr}{k:Nat}{xs:Array Value}{Q:Option Value->Shared->Prop} (t:ip s.heap A.handled) (D:ZipApart z TI TO i1 i2 l1 l2) (hz:IsZip s.heap z TI TO .none) (hI:IsPair s.heap TI (.ref i1) (.ref i2))
  (h1:s.heap.IsListIter i1 l1 k) (hl:s.heap.IsList l1 xs) (hx:xs[k]? = none) (q:∀h',(∀c o,c≠z->c≠i1->s.heap.get? c=some o->h'.get? c=some o)->Q none { s with heap:=h' }) :
  wpAny (model P w) A (pyNext (.ref z)) Q E s:=by
 have ty:s.TypeIs (.ref z) "zip" :=⟨_,hz,rfl⟩;have end_:∀h' e,(∀c o,c≠z->c≠i1->s.heap.get? c=some o->h'.get? c=some o)->(∃o,h'.get? e=some o/\o.cls = .type "StopIteration")->wpAny (model P w) A (isInstance (.ref e) (.type "StopIteration") >>= fun b=>if b=true then pure none else throw (.ref e)) Q E { s with heap:=h' }:=fun h' e kp st =>
  ae (BQ (T:= "StopIteration") (b:=true) st Im (aj (q h' kp)))
 unfold pyNext;refine ae (sf (qt (name:=Str.ofString "__next__") ty sr (jh sr ty Iu ?_ (Iv _))));refine ae (m:=field (.ref z) 2) (eQ hz rfl (x:= .bool false) rfl ?_);refine ae (m:=field (.ref z) 3) (eQ hz rfl (x:= .ref TI) rfl (ae (nF hI rfl ?_)));refine ae (m:=Builtin.SmallTypes.ownedTupleIsFree (.ref z)) ?_;unfold Builtin.SmallTypes.ownedTupleIsFree;refine ae (eQ hz rfl (x:= .none) rfl (aj ?_));simp only[oM];refine ae (lU (ae (eQ hz rfl (x:= .ref TO) rfl (ae (lX hz (by simp) fun g1 gz s1=>?_)))))
 replace gz:IsZip g1 z TI TO .ellipsis:=gz;refine ae ?_;simp only[List.zipIdx_cons,List.zipIdx_nil,BE,BF];refine ae (ae (RP ?_));have t1:ip g1 A.handled:=t.YQ fun b v nv l=>l.keep fun o e=>(s1.2 b fun zz=>nv (by
  obtain⟨o2,vs,e2,d2,x2⟩:=l;rw[zz,hz]at e2;cases e2;cases d2;cases x2;rfl)).trans e
 refine ae (m:=Builtin.SmallTypes.nextOf (.ref i1)) (UW (A:=A.in1) (s:={ s with heap:=g1 }) t1 (h1.extBut s1.extBut D.i1z) (hl.extBut s1.extBut D.l1z) hx fun g2 e x2 ⟨oe,he,ce⟩=>?_);have Ot:IsZip g2 z TI TO .ellipsis:=x2 _ _ D.i1z.symm gz;have nez:e≠z:=fun zz=>by rw[zz,Ot]at he;cases he;simp at ce
 refine lX Ot (by simp) fun g3 _ s3=>?_
 exact end_ g3 e (fun c o c1 c2 x=>s3.extBut _ _ c1 (x2 _ _ c2 (s1.extBut _ _ c1 x))) ⟨oe,s3.extBut _ _ nez he,ce⟩
end
def exE (K:Frag) (B:Addr) (th:Addr->TS) (D:Ends):St->XK:=fun aD cls oa H2=>(∃C,cls = .ref C/\mroIn K C (.ref B)=some true) /\ ∃a,oa=some a/\th a D aD H2
section
variable{X:Cx}{C:Addr}{cn:Str}{p5 p6 p7:Pos}{b0 b1:Stmt}{body wR:List Stmt}{th:Addr->TS}{tb:Ends->TS}{ci:Option Value}
theorem WK (hb:∀pins D,fB (X.jP pins (exE X.K C th D)) (b1::body) (tb D))
  (h0:X.xe=fun _ _=>False) (hc:X.calm=true) (hs:X.stack=X.env::X.outer) (hf:X.env.frame=some X.env.locals)
  (gc:Gl X cn) (mc:X.mg cn=some (.ref C)) (qc:fc X.K C ci=true) (hh:∀a,fB (X.fY a) (b0::wR) (th a)) (xU:(cn==("__debug__" : Str))=false:=by decide) :
  PS X (.Try (b1::body) [.ExceptHandler (some (.Name cn p5)) none (b0::wR) p6] [] [] p7) (Dw tb):=by
 intro pins s σ H D I h;refine Rk ?_;refine k6 (hb pins D [] s σ H D I.jP h) (fun fl s1 z=>?_) fun ev s2 z=>?_
 ·have z':=SP.nX I.ok z
  cases fl with
  |next=>exact vp z'
  |brk=>exact z'
  |cont=>exact z'
  |ret u=>exact z'
 ·obtain⟨aD,H0,s1,I1,a,nn,C',a0,dx,H',B,rfl,os,bare,m8,⟨ox,i7,hd,hz⟩,rO,na,new,⟨C2,eC,me⟩,a',ea,xV⟩:=z
  cases ea
  cases eC
  rw[hs]at m8;refine iS wc (Rl (Q:=fun _ s'=>∃h',s'={ s2 with heap:=h' }/\Heap.HeldW B (X.env::X.outer) a (.ref C') a0 X.env.locals h'/\s2.heap.UpToSlots h') (by rw[<-hs];exact I1.ok.frames) hf m8 fun h3 held lH=>⟨h3,rfl,held,lH⟩) fun _ s3 ⟨h3,e3,held,lH⟩ xW=>?_
  subst e3;refine iS nH (Ii (Q:=fun _ s'=>∃h',s'={ s2 with heap:=h' }/\Heap.FlyingW B (X.env::X.outer) a (.ref C') a0 h'/\h3.UpToSlots h') held fun h4 ik iy=>⟨h4,rfl,ik,iy⟩) fun _ s4 ⟨h4,e4,ik,iy⟩ xX=>?_;subst e4;have up:s2.heap.UpToSlots h4:=si lH iy;have rd:RD s2.heap h4:=xW.trans xX;have lay:∀h5,Heap.FlyingW B (X.env::X.outer) a (.ref C') a0 h5->s2.heap.UpToSlots h5->RD s2.heap h5->Inv X pins aD (upd H' a (eU nn C' dx a)) { s2 with heap:=h5 }:=fun h5 f5 u5 r5=>by
   obtain⟨u,ok⟩:=rO h5 f5.1 u5;obtain⟨o5,e5,_⟩:=f5.there;exact I1.tL (s':={ s2 with heap:=h5 }) os (u.add na new) (Dc ok na (C9 f5 ⟨o5,e5,(r5.dict i7 e5).1.trans hd,fun y ey=>(r5.dict i7 e5).2.trans (hz y ey)⟩)) bare (fun b z=>absurd z (by simp))
  have J:=lay h4 ik up rd;obtain⟨o4,fH,pT⟩:=ik.there;refine Rm (Rn ?_) (by intro z;cases z)
  refine mw (J.fY a) gc mc ?_ xU;refine B5 (K:=X.K) J.bq qc me fH pT ?_;refine codeAny_handlers_suite ?_;refine iS nH (lands_againW (Q:=fun _ s'=>∃h',s'={ s2 with heap:=h' }/\Heap.FlyingW B (X.env::X.outer) a (.ref C') a0 h'/\h4.UpToSlots h') ik fun h5 lB lI=>⟨h5,rfl,lB,lI⟩) fun _ s5 ⟨h5,e5,lB,lI⟩ xY=>?_;subst e5;have J5:=lay h5 lB (si up lI) (rd.trans xY);refine HP (aA (hh a pins _ _ _ D (J5.fY a) xV) fun fl s7 z=>?_);exact SP.uncaught J5.ok z
end
end L2
namespace L2
open PySem PySem.Spec PyProof.Rows PySem.W HT
def nY (H:Hp) (x:Option Value):Prop:= ∃a C dx,x=some (.ref a)/\(H a=some (eU (some .none) C dx a) \/ ∃c C' j4,H a=some (eU (some (.ref c)) C dx a)/\c≠a/\H c=some (eU (some .none) C' j4 c))
theorem nY.same {H H':Hp}{x:Option Value} (t:nY H x) (s:∀b o,H b=some o->H' b=some o):nY H' x:=by
 obtain⟨a,C,dx,e,h|⟨c,C',j4,h1,n,h2⟩⟩:=t
 ·exact⟨a,C,dx,e,.inl (s _ _ h)⟩
 ·exact⟨a,C,dx,e,.inr ⟨c,C',j4,s _ _ h1,n,s _ _ h2⟩⟩
theorem nY.MZ {X:Cx}{pins:List (Addr×Obj)}{σ:St}{H:Hp}{s:Shared}{x:Option Value} (I:Inv X pins σ H s) (t:nY H x):ip s.heap x:=by
 have lk:∀ {a C:Addr}{dx:Option Addr}{v:Value},H a=some (eU (some v) C dx a)->gb s.heap a v:=fun {a C dx v} e=>by
  obtain⟨o,vs,h1,_,_,h2,h3⟩:=(I.ar a _ e).1;exact⟨o,vs,h1,h2,h3 v rfl⟩
 obtain⟨a,C,dx,e,h|⟨c,C',j4,h1,n,h2⟩⟩:=t
 ·exact .inr ⟨a,e,.inl (lk h)⟩
 ·exact .inr ⟨a,e,.inr ⟨c,lk h1,n,lk h2⟩⟩
structure DL (P:Program) (w:World) (K:Frag) (hv:Option Value) (tg:Expr) (J:It) (fp:List Addr) (it:Addr) (tn:Nat->Heap->Prop):Prop where
 mem:it∈fp
 obj:∀i h,tn i h -> ∀b∈fp,∃o,h.get? b=some o /\ ∀v,o.data ≠ .cell v
 keep:∀i h h',tn i h->(∀b∈fp,∀o,h.get? b=some o->h'.get? b=some o)->tn i h'
 item:∀ (X:Cx),X.prog=P->X.w=w->X.K=K->X.A.handled=hv -> ∀ (i:Nat) (pins:List (Addr×Obj)) (s:Shared) (σ:St) (H:Hp) (E:Value->Shared->Prop),Inv X pins σ H s->(∀b∈fp,f9 X pins H b)->tn i s.heap->J.go i H ->
  wpAny (model P w) X.A (pyNext (.ref it)) (fun r s1=>∃u,r=some u /\
   wpAny (model P w) X.A (letOwnedTupleGo tg (.ref it) u) (fun _ s2=>∃x H',Inv X pins σ H' s2/\RelV x u/\J.pK i H x H'/\tn (i+1) s2.heap /\ ∀b∈fp,H' b=none) E s1) E s
 done:∀ (X:Cx),X.prog=P->X.w=w->X.K=K->X.A.handled=hv -> ∀ (i:Nat) (pins:List (Addr×Obj)) (s:Shared) (σ:St) (H:Hp) (E:Value->Shared->Prop),Inv X pins σ H s->(∀b∈fp,f9 X pins H b)->tn i s.heap->J.stop i H ->
  wpAny (model P w) X.A (pyNext (.ref it)) (fun r s1=>r=none/\Inv X pins σ H s1) E s
 self:∀ (A:Around) (i:Nat) (s:Shared) (Q:Value->Shared->Prop) (E:Value->Shared->Prop),tn i s.heap->Q (.ref it) s->wpAny (model P w) A (pyIter (.ref it)) Q E s
def aam (X:Cx) (pins:List (Addr×Obj)) (σ:St) (tg:Expr) (R:It->Hp->Prop) (rD:Value) (s2:Shared):Prop:=
 ∃ (it:Addr) (fp:List Addr) (tn:Nat->Heap->Prop) (J:It) (H':Hp),rD = .ref it/\Inv X pins σ H' s2/\DL X.prog X.w X.K X.A.handled tg J fp it tn/\tn 0 s2.heap/\(∀b∈fp,f9 X pins H' b)/\R J H'
def Ou (X:Cx) (tg iter:Expr) (wi:TI):Prop:=
 ∀ (pins:List (Addr×Obj)) (s:Shared) (σ:St) (H:Hp) (R:It->Hp->Prop),Inv X pins σ H s->wi σ H R ->
  wpAny (model X.prog X.w) X.A (eval iter X.env) (fun v s1=>wpAny (model X.prog X.w) X.A (pyIter v) (aam X pins σ tg R) X.xe s1) X.xe s
def YR (K:Frag) (hv:Option Value) (n:Nat) (t:m5):TG:=fun v σ H Q=>∃a xs,v = .ref a/\aG K H a xs/\xs.length=n/\nY H hv/\t xs σ H Q
theorem WL {X:Cx}{pos:Pos}{es:List Expr}{k:Nat}{t:m5}{n:Nat}{K:Frag}{hv:Option Value} (hK:X.K=K) (hc:X.A.handled=hv) (h:uD X es t)
  (hn:(assignEach es X.env).length=n:=by rfl) (rC:(assignEach es X.env).findIdx? (·.1)=none:=by rfl):PG X (.Tuple es k pos) (YR K hv n t):=by
 intro pins s σ H v u Q I r hw;subst hK;obtain⟨a,xs,rfl,hq,hl,tl,hw⟩:=hw;cases r
 obtain⟨its,rv,ht,hz⟩:=I.tuple hq;refine WJ (by rw[hc];exact tl.MZ I) ht (by simp[hn,<-hl,rv.length]) rC fun h' hx=>?_
 have I1:Inv X pins σ H { s with heap:=h' }:=I.kept (t':=s.toks) fun b o e=>hx b o (bj (aR e)) e;exact h pins _ σ H xs _ Q I1 (by simpa using rv) hw
def Ea (K:Frag) (hv:Option Value) (l1 l2:Addr):It:=
  ⟨fun i H=>∃xs ys x y,ak K H l1 xs/\ak K H l2 ys/\xs[i]? = some x/\ys[i]? = some y,
   fun i H v H'=>∃t x y,H t=none/\v = .ref t/\(∀xs,ak K H l1 xs->xs[i]? = some x)/\(∀ys,ak K H l2 ys->ys[i]? = some y)/\H'=upd H t (.tup [x,y]),
   fun i H=>∃xs,ak K H l1 xs/\xs.length<=i/\nY H hv⟩
theorem UX {P:Program}{w:World}{K:Frag}{hv:Option Value}{elts:List Expr}{n1:Nat}{tp:Pos}{z TI TO i1 i2 l1 l2:Addr} (D:ZipApart z TI TO i1 i2 l1 l2) :
  DL P w K hv (.Tuple elts n1 tp) (Ea K hv l1 l2) [z,TI,TO,i1,i2] z (fun i h=>IsZip h z TI TO .none/\IsPair h TI (.ref i1) (.ref i2)/\(∃a b,IsPair h TO a b)/\h.IsListIter i1 l1 i/\h.IsListIter i2 l2 i) where
 mem:=by simp
 obj:=fun i h st b hb=>by
  obtain⟨hz,eg,⟨a,b',lM⟩,⟨o1,e1,c1,d1⟩,⟨o2,e2,c2,d2⟩⟩:=st;simp only[a9,lZ,md]at hb;rcases hb with rfl|rfl|rfl|rfl|rfl
  ·exact⟨_,hz,fun v q=>by cases q⟩
  ·exact⟨_,eg,fun v q=>by cases q⟩
  ·exact⟨_,lM,fun v q=>by cases q⟩
  ·exact⟨o1,e1,fun v q=>by rw[d1]at q;cases q⟩
  ·exact⟨o2,e2,fun v q=>by rw[d2]at q;cases q⟩
 keep:=fun i h h' st k=>by
  obtain⟨hz,eg,⟨a,b,lM⟩,t1,t2⟩:=st;exact⟨k z (by simp) _ hz,k TI (by simp) _ eg,⟨a,b,k TO (by simp) _ lM⟩,zg t1 fun o e=>k i1 (by simp) o e,zg t2 fun o e=>k i2 (by simp) o e⟩
 item:=by
  intro X hP hw hK hc i pins s σ H E I hf st hg;subst hP hw hK;obtain⟨xs,ys,x,y,uW,pS,hx,hy⟩:=hg;obtain⟨M0,AX,p1,_⟩:=I.list uW;obtain⟨t6,yf,p2,_⟩:=I.list pS;obtain⟨u1,eu,yg⟩:=AX.get hx;obtain⟨u2,hu2,yh⟩:=yf.get hy;obtain⟨hz,eg,⟨a,b,lM⟩,t1,t2⟩:=st;refine wpAny_pyNext_zip_item D hz eg lM t1 t2 p1.isList p2.isList (by simpa using eu) (by simpa using hu2) fun g gz gTO gt1 gt2 gp _ kp=>⟨_,rfl,?_⟩
  refine wpAny_letOwnedTupleGo_zip (s:={ s with heap:=g }) gz fun iw z2 sb=>?_;have lt:∀ {c:Addr}{o:Obj},s.heap.get? c=some o->c≠s.heap.objs.size:=fun e=>bj (aR e);have k2:∀c o,c≠z->c≠TO->c≠i1->c≠i2->s.heap.get? c=some o->iw.get? c=some o:=fun c o n0 n1 n2 n3 e=>(sb.2 c n0).trans (kp c o n0 n1 n2 n3 e);have hn:H s.heap.objs.size=none:=I.ar.fresh (aO _);have tz:s.heap.objs.size≠z:=aQ (lt hz);have t3:iw.get? s.heap.objs.size=some { cls:= .type "tuple",data:= .seq #[u1,u2] }:=(sb.2 _ tz).trans gp;have fz:=hf z (by simp)
  have fO:=hf TO (by simp)
  have f1:=hf i1 (by simp)
  have f2:=hf i2 (by simp)
  have i3:∀ {c:Addr}{o:HO},H c=some o->c≠z/\c≠TO/\c≠i1/\c≠i2:=fun q=>⟨fun n=>(by rw[n,fz.1]at q;cases q),fun n=>(by rw[n,fO.1]at q;cases q),fun n=>(by rw[n,f1.1]at q;cases q),fun n=>(by rw[n,f2.1]at q;cases q)⟩
  have gu:∀ {c:Addr},c ∉ [z,TO,i1,i2]->c≠z/\c≠TO/\c≠i1/\c≠i2:=fun hc=>by simpa using hc
  have J:Inv X pins σ (upd H s.heap.objs.size (.tup [x,y])) { s with heap:=iw }:=by
   refine I.step (g':=s.gens) (d':=s.drawn) (t':=s.toks) (ch:= [z,TO,i1,i2]) (fun c hc=>?_) (fun c o _ _ hc q _=>let ⟨n0,n1,n2,n3⟩:=gu hc;k2 c o n0 n1 n2 n3 q) (fun c o _ _ hc q _=>let ⟨n0,n1,n2,n3⟩:=gu hc;⟨o.slots,k2 c o n0 n1 n2 n3 q⟩)
    (fun c o _ q n=>by rw[ah (lt q)];exact n) (fun c o hc q=>let ⟨n0,n1,n2,n3⟩:=gu hc;⟨o,k2 c o n0 n1 n2 n3 q⟩) (fun c vs q=>by rw[ah (aq q hn)];exact q) (fun c o v q=>by rw[ah (aq q hn)];exact q)
    (fun c ps q=>⟨#[],by rw[ah (aq q hn),q];simp⟩) (fun m hm=>?_) (fun c o q=>?_) I.bare
   ·have ok:∀ {d:Addr},f9 X pins H d->(d∈X.ex\/X.cC.heap.objs.size<=d)/\d≠X.env.locals/\(∀x c,X.env.cells.lookup x=some c->c≠d) /\ ∀p∈X.pn++pins,p.1≠d:=fun f=>⟨f.2.2.2.1,f.2.1,f.2.2.2.2.1,f.2.2.2.2.2⟩
    simp only[a9,lZ,md]at hc;rcases hc with rfl|rfl|rfl|rfl
    ·exact ok fz
    ·exact ok fO
    ·exact ok f1
    ·exact ok f2
   ·obtain⟨o,es,ep,ho,r⟩:=hm
    exact⟨o,es,ep,k2 _ o (aQ fz.2.1) (aQ fO.2.1) (aQ f1.2.1) (aQ f2.2.1) ho,r⟩
   ·by_cases hb:c=s.heap.objs.size
    ·subst hb
     rw[ag]at q;cases q;exact⟨by rw[aE];show 2<=_;decide,[u1,u2],.cons yg (.cons yh .nil),_,t3,rfl,_,rfl,rfl⟩
    ·rw[ah hb]at q
     refine(I.ar c o q).ie (fun d v hd e=>?_) (fun d e=>by rw[ah (aq e hn)];exact e) fun d vs e=>by rw[ah (aq e hn)];exact e
     rcases hd with hd|hd
     ·subst hd
      obtain⟨n0,n1,n2,n3⟩:=i3 q;exact k2 _ v n0 n1 n2 n3 e
     ·obtain⟨n0,n1,n2,n3⟩:=i3 hd
      exact k2 d v n0 n1 n2 n3 e
  refine⟨.ref s.heap.objs.size,_,J,rfl,⟨s.heap.objs.size,x,y,hn,rfl,fun vs h=>by rw[I.zq h uW];exact hx,fun vs h=>by rw[I.zq h pS];exact hy,rfl⟩,⟨z2,k2 _ _ D.TIz D.TITO D.TIi1 D.TIi2 eg,⟨u1,u2,sb.extBut _ _ D.TOz gTO⟩,zg gt1 fun o e=>sb.extBut _ o D.i1z e,zg gt2 fun o e=>sb.extBut _ o D.i2z e⟩,fun c hc=>?_⟩
  have:c≠s.heap.objs.size:=by
   simp only[a9,lZ,md]at hc;rcases hc with rfl|rfl|rfl|rfl|rfl
   ·exact lt hz
   ·exact lt eg
   ·exact lt lM
   ·obtain⟨o,e,_⟩:=t1;exact lt e
   ·obtain⟨o,e,_⟩:=t2;exact lt e
  rw[ah this];exact(hf c hc).1
 done:=by
  intro X hP hw hK hc i pins s σ H E I hf st hg;subst hP hw hK;obtain⟨xs,uW,aiJ,tl⟩:=hg;obtain⟨M0,AX,p1,_⟩:=I.list uW;have e1:=AX.length;obtain⟨hz,eg,⟨a,b,lM⟩,t1,t2⟩:=st;have fz:=hf z (by simp)
  have f1:=hf i1 (by simp)
  refine VS (by rw[hc];exact tl.MZ I) D hz eg t1 p1.isList (by simp;omega) fun g kp=>⟨rfl,?_⟩
  have i3:∀ {c:Addr}{o:HO},H c=some o->c≠z/\c≠i1:=fun q=>⟨fun n=>(by rw[n,fz.1]at q;cases q),fun n=>(by rw[n,f1.1]at q;cases q)⟩
  have gu:∀ {c:Addr},c ∉ [z,i1]->c≠z/\c≠i1:=fun hc=>by simpa using hc
  refine I.step (g':=s.gens) (d':=s.drawn) (t':=s.toks) (ch:= [z,i1]) (fun c hc=>?_) (fun c o _ _ hc q _=>let ⟨n0,n1⟩:=gu hc;kp c o n0 n1 q) (fun c o _ _ hc q _=>let ⟨n0,n1⟩:=gu hc;⟨o.slots,kp c o n0 n1 q⟩)
   (fun c o _ q n=>n) (fun c o hc q=>let ⟨n0,n1⟩:=gu hc;⟨o,kp c o n0 n1 q⟩) (fun c vs q=>q) (fun c o v q=>q) (fun c ps q=>⟨#[],by rw[q];simp⟩) (fun m hm=>?_) (fun c o q=>?_) I.bare
  ·have ok:∀ {d:Addr},f9 X pins H d->(d∈X.ex\/X.cC.heap.objs.size<=d)/\d≠X.env.locals/\(∀x c,X.env.cells.lookup x=some c->c≠d) /\ ∀p∈X.pn++pins,p.1≠d:=fun f=>⟨f.2.2.2.1,f.2.1,f.2.2.2.2.1,f.2.2.2.2.2⟩
   simp only[a9,lZ,md]at hc;rcases hc with rfl|rfl
   ·exact ok fz
   ·exact ok f1
  ·obtain⟨o,es,ep,ho,r⟩:=hm
   exact⟨o,es,ep,kp _ o (aQ fz.2.1) (aQ f1.2.1) ho,r⟩
  ·refine(I.ar c o q).ie (fun d v hd e=>?_) (fun d e=>e) fun d vs e=>e
   rcases hd with hd|hd
   ·subst hd
    obtain⟨n0,n1⟩:=i3 q;exact kp _ v n0 n1 e
   ·obtain⟨n0,n1⟩:=i3 hd
    exact kp d v n0 n1 e
 self:=fun _ _ _ _ _ st h=>RQ st.1 h
section
variable{X:Cx}
def YS (K:Frag) (hv:Option Value) (ta:TA):TI:=fun σ H R=>ta σ H fun vs H1=>∃a b,vs = [.ref a,.ref b]/\(∃xs,ak K H1 a xs)/\(∃ys,ak K H1 b ys)/\R (Ea K hv a b) H1
theorem WM {a b:Expr}{ta:TA}{p pos tp:Pos}{elts:List Expr}{n1:Nat} (hg:Gl X "zip") (hm:X.mg "zip" = none) (ha:PA X [a,b] ta) (he:starEach [a,b] X.env=(false,eval a X.env)::starEach [b] X.env:=by rfl) (cS:(backTo pos (starEach [b] X.env)).any (·.1)=false:=by rfl) :
  Ou X (.Tuple elts n1 tp) (.Call (.Name "zip" p) [a,b] [] pos) (YS X.K X.A.handled ta):=by
 intro pins s σ H R I h;refine oJ (oZ I hg hm (show bootBuiltins "zip" = some (.type "zip") by decide +kernel) ?_)
 refine yM (aA (ha pos pins s σ H _ I h) fun us s1 ⟨vs,H1,I1,r1,q1⟩=>?_) he cS;obtain⟨l1,l2,e,⟨xs,uW⟩,⟨ys,pS⟩,q⟩:=q1;subst e;obtain⟨u1,u2,rfl,yg,yh⟩:=r1.two;cases yg
 cases yh
 obtain⟨M0,AX,p1,_⟩:=I1.list uW;obtain⟨t6,yf,p2,_⟩:=I1.list pS;have kJ:(l1:Nat) < s1.heap.objs.size:=by obtain⟨o,_,e,_⟩:=p1;exact aR e
 have AY:(l2:Nat) < s1.heap.objs.size:=by obtain⟨o,_,e,_⟩:=p2;exact aR e
 refine call_zip_2 p1.isList p2.isList fun g gz gi go g1 g2 _ kp=>?_;refine RQ (s:={ s1 with heap:=g }) gz ?_;refine⟨s1.heap.objs.size+4,[s1.heap.objs.size+4,s1.heap.objs.size+2,s1.heap.objs.size+3,s1.heap.objs.size,s1.heap.objs.size+1],_,_,H1,rfl,I1.kept (t':=s1.toks) kp,UX (zipApart_new kJ AY),⟨gz,gi,⟨_,_,go⟩,g1,g2⟩,fun c hc=>?_,q⟩;have le:s1.heap.objs.size<=c:=by
  simp only[a9,lZ,md]at hc;rcases hc with rfl|rfl|rfl|rfl|rfl
  ·exact vC _ _
  ·exact vC _ _
  ·exact vC _ _
  ·exact aO _
  ·exact vC _ _
 exact I1.kq le (I1.ar.fresh le)
end
section
variable{X:Cx}{pins:List (Addr×Obj)}{σ:St}{H2:Hp}{s2:Shared}{N':List Str}{cw:List (Option Nat)}{scope:Scope}{tg elt iter:Expr}{ifs:List Expr}{pos:Pos}
theorem Ub {J:It}{fp:List Addr}{it:Addr}{tn:Nat->Heap->Prop}{g:TG}{ti:TT}{te:TE}{Q:VK}{E:Value->Shared->Prop}{RR:Value->Addr->Result->Shared->Prop}  (S:bX X.N X.env.scope N' cw scope)
  (I2:Inv X pins σ H2 s2) (T:DL X.prog X.w X.K X.A.handled tg J fp it tn) (st:tn 0 s2.heap) (hf:∀b∈fp,f9 X pins H2 b)
  (hb:∀s H fp,PG (cR X N' scope s H fp) tg g/\rb (cR X N' scope s H fp) ifs ti/\PE (cR X N' scope s H fp) elt te)
  (hw:∀p,H2 p=none->lx J g ti te (pick cw σ) Q p H2) (hR:∀acc C s',CompEnd X pins σ Q acc C s'->RR acc C (.ok .next) s') :
  wpAny (model X.prog X.w) X.A (newList []) (fun acc s3=>wpAny (model X.prog X.w) X.A (newFunctionEnv scope X.env.globals (gU X.env.cells scope.names []) [] X.env.qual none .none (some X.env)) (fun xi s4 =>
   codeAny (model X.prog X.w) X.A (.compStart (.ListComp elt [⟨tg,iter,ifs,0⟩] scope pos) 0 (.ref it) acc { xi with scope:=relabel scope X.env }) (RR acc xi.locals) s4) E s3) E s2:=by
 refine j9 ?_;have I3:Inv X pins σ (upd H2 s2.heap.objs.size (.lst [])) { s2 with heap:=s2.heap.push { cls:= .type "list",data:= .seq ([]:List Value).toArray } }:=
  I2.D1 (its:= []) (t':=s2.toks) .nil (bG _)
 have hp:=hw s2.heap.objs.size I2.fresh;generalize e3:({ s2 with heap:=s2.heap.push { cls:= .type "list",data:= .seq ([]:List Value).toArray } }:Shared)=s3 at I3 ⊢;generalize eH:upd H2 s2.heap.objs.size (.lst [])=H3 at I3 hp;have jz:∀b∈fp,b < s2.heap.objs.size:=fun b hb=>let ⟨_,e,_⟩:=T.obj _ _ st b hb;aR e;have get3:∀b o,s2.heap.get? b=some o->s3.heap.get? b=some o:=fun b o e=>by rw[<-e3];exact aT _ e
 have pL:tn 0 s3.heap:=T.keep _ _ _ st fun b _ o e=>get3 b o e;have gI:∀b∈fp,f9 X pins H3 b:=fun b hb=>⟨by rw[<-eH,ah (bj (jz b hb))];exact(hf b hb).1,(hf b hb).2⟩
 have xO:∀b∈fp,∃o,s3.heap.get? b=some o:=fun b hb=>let ⟨o,e,_⟩:=T.obj _ _ pL b hb;⟨o,e⟩;refine Ja fun h4 hn hk gX ET=>?_;have I4:Inv (cR X N' scope s3 H3 fp) [] (pick cw σ) H3 { s3 with heap:=h4 }:=Kn I3 S gI xO hn hk gX ET;have xP:tn 0 ({ s3 with heap:=h4 }:Shared).heap:=T.keep _ _ _ pL fun b _ o e=>hk b o e;obtain⟨hG,hI,hE⟩:=hb s3 H3 fp;obtain⟨W,⟨m0,w0⟩,turn⟩:=hp;rw[eH]at w0;have lA:∀ {H':Hp},(∀b∈fp,H' b=none) -> ∀b∈fp,f9 (cR X N' scope s3 H3 fp) [] H' b:=fun hn b hb =>
  ⟨hn b hb,(I4.ok.m3 b hb).1,I4.ok.mX b hb,.inl hb,fun x c e=>(I4.ok.m3 b hb).2 x c e,fun p hp=>absurd (show p∈([]:List (Addr×Obj)) from hp) (by simp)⟩
 have loop:codeAny (model X.prog X.w) X.A (.compLoop (.ListComp elt [⟨tg,iter,ifs,0⟩] scope pos) 0 (.ref it) (.ref s2.heap.objs.size) (CH scope s3.heap.objs.size X.env))
   (RR (.ref s2.heap.objs.size) s3.heap.objs.size) { s3 with heap:=h4 }:=by
  refine IJ (fun n s'=>∃i ys τ H',Inv (cR X N' scope s3 H3 fp) [] τ H' s'/\tn i s'.heap/\(∀b∈fp,H' b=none)/\W i n ys τ H') ?_ m0 ⟨0,[],_,H3,I4,xP,fun b hb=>(gI b hb).1,w0⟩;rintro n s5 ⟨i,ys,τ,H5,I5,om,rG,w5⟩;obtain⟨pQ,w5⟩:=turn i n ys τ H5 w5;rcases w5 with⟨stop,qn⟩|⟨go,step⟩
  ·refine aA (T.done (cR X N' scope s3 H3 fp) rfl rfl rfl rfl i [] s5 τ H5 _ I5 (lA rG) om stop) fun r s6 ⟨hr,I6⟩=>?_
   subst hr;refine hR _ _ _ ⟨_,H5,rfl,?_,?_,?_,qn⟩
   ·exact I3.tL (s':=s6) (ch:=fp) I6.os I6.base I6.ar I6.bare fun b hb=>⟨(gI b hb).2.2.2.1,(gI b hb).2.1,(gI b hb).2.2.2.2.1,(gI b hb).2.2.2.2.2⟩
   ·exact I3.kq (aO _) I6.free
   ·obtain⟨m,hm,_⟩:=I6.loc
    exact⟨m,hm⟩
  ·refine aA (T.item (cR X N' scope s3 H3 fp) rfl rfl rfl rfl i [] s5 τ H5 _ I5 (lA rG) om go) fun r s6 ⟨u,hr,h6⟩=>?_
   subst hr;refine aA h6 fun _ s7 ⟨x,H7,I7,r7,y7,rK,EU⟩=>?_;have EV:=I7.pinned (lA EU) (T.obj _ _ rK);refine aA (hG _ s7 τ H7 x u _ EV r7 (step x H7 y7)) fun _ s8 ⟨rL,H8,I8,q8⟩=>?_;refine aA (hI _ s8 rL H8 _ I8 q8) fun b s9 ⟨H9,I9,q9⟩=>?_;have again:∀ {gJ:St}{H':Hp}{s':Shared}{cq:List V}{m':Nat},Inv (cR X N' scope s3 H3 fp) ([]++tw fp s7.heap) gJ H' s'->m' < n->W (i+1) m' cq gJ H' ->
     ∃m,m < n /\ ∃i ys τ H',Inv (cR X N' scope s3 H3 fp) [] τ H' s'/\tn i s'.heap/\(∀b∈fp,H' b=none)/\W i m ys τ H':=fun {gJ H' s' cq m'} I' hm w'=>by
    refine⟨m',hm,i+1,cq,gJ,H',I'.vU,T.keep _ _ _ rK fun b hb o e=>(I'.pin (b,o) (gk _ (gk _ (sG hb e)))).1,fun b hb=>?_,w'⟩;obtain⟨o,e,d⟩:=T.obj _ _ rK b hb;exact(I'.pin (b,o) (gk _ (gk _ (sG hb e)))).2.1
   cases b with
   |false =>
    obtain⟨m',hm,w'⟩:=q9;exact again I9 hm w'
   |true =>
    refine aA (hE _ s9 rL H9 _ I9 q9) fun y EW ⟨z,uI,EX,EY,D4,D5,m',hm,w'⟩=>?_;refine aA (k9 _ EW rL uI (.ref s2.heap.objs.size) [z] (.ref s2.heap.objs.size) [y] (fun _ H'=>H'=upd uI s2.heap.objs.size (.lst (ys ++ [z]))) EX rfl (.cons EY .nil) ⟨_,_,_,rfl,rfl,D4,D5,rfl⟩) fun _ s11 ⟨_,EZ,E1,_,rM⟩=>?_;subst rM;exact again E1 hm w'
 exact codeAny_compStart_list loop (T.self X.A 0 _ _ _ xP loop)
theorem VT {wi:TI}{g:TG}{ti:TT}{te:TE}  (S:bX X.N X.env.scope N' cw scope) (hi:Ou X tg iter wi)
  (hb:∀s H fp,PG (cR X N' scope s H fp) tg g/\rb (cR X N' scope s H fp) ifs ti/\PE (cR X N' scope s H fp) elt te)
  (hs:∀x,foldedSetIterable iter X.env x=pure x:=by intro _;rfl):PE X (.ListComp elt [⟨tg,iter,ifs,0⟩] scope pos) (DG wi cw g ti te):=by
 intro pins s σ H Q I h;rw[eval_ListComp];refine Q4 (use:=none) rfl hs (B1 fun n hn=>zk I S hn) S.kind (fun x hx hl=>sC S.keys (by rw[<-hl];exact hx)) ?_
 refine aA (hi pins s σ H _ I h) fun v s1 h1=>aA h1 fun rD s2 h2=>?_;obtain⟨it,fp,tn,J,H2,e,I2,T,jW,f2,hw⟩:=h2;subst e;refine Ub (RR:=fun acc C=>compPost (model X.prog X.w) X.A X.xe none (EP X pins σ Q) acc C) S I2 T jW f2 hb hw ?_;rintro acc C s' ⟨p,H',rfl,I',fC,⟨m,hm⟩,q⟩;refine⟨m,hm,fun h' kG=>⟨.ref p,H',?_,rfl,q⟩⟩;exact I'.turned (it:=C) (t':=s'.toks) (fun b o hb e=>(kG.2 b hb).trans e) fC.1 fC.2.1 fC.2.2.2.1 fC.2.2.2.2.1 fC.2.2.2.2.2
end
theorem UY {K:Frag}{hv:Option Value}{a b:Addr}{xs ys:List V}{g:TG}{ti:TT}{te:TE}{iJ:St}{Q:VK}{p:Addr}{H1:Hp} (n:Nat) (hn:n=xs.length) (hy:n<=ys.length) (Pv:Nat->List V->St->Hp->Prop) (h0:Pv 0 [] iJ (upd H1 p (.lst [])))
  (hl:∀i zs τ H,Pv i zs τ H->H p=some (.lst zs)/\ak K H a xs/\ak K H b ys/\nY H hv)
  (hs:∀i x y zs τ H t,xs[i]? = some x->ys[i]? = some y->Pv i zs τ H->H t=none->g (.ref t) τ (upd H t (.tup [x,y])) fun dG H4=>ti dG H4 fun c H5=>if c=true then te dG H5 fun v H6=>H6 p=some (.lst zs)/\zs.length < sizeLine /\ ∃m',m' < n - i/\CW Pv n (i+1) m' (zs ++ [v]) dG (upd H6 p (.lst (zs ++ [v]))) else ∃m',m' < n - i/\CW Pv n (i+1) m' zs dG H5)
  (hd:∀zs τ H,Pv n zs τ H->Q (.ref p) H):lx (Ea K hv a b) g ti te iJ Q p H1:=by
 refine⟨CW Pv n,⟨n,by simp,bG _,h0⟩,?_⟩
 rintro i m zs τ H ⟨rfl,hi,pv⟩;obtain⟨hp,q1,q2,tl⟩:=hl i zs τ H pv;refine⟨hp,?_⟩
 by_cases lt:i < n
 ·refine .inr ⟨⟨xs,ys,xs[i]'(by omega),ys[i]'(by omega),q1,q2,by simp,by simp⟩,fun v H3 ⟨t,x,y,ht,e,ex,ey,eH⟩=>?_⟩
  subst e eH;exact hs i x y zs τ H t (ex xs q1) (ey ys q2) pv ht
 ·obtain rfl:i=n:=by omega
  exact .inl ⟨⟨xs,q1,by omega,tl⟩,hd zs τ H pv⟩
section
variable{X:Cx}{k:Nat}{f:Addr}{fd:FuncData}{ps:List Str}{sp:Option Value->Sp}{E:XK}{x:Str}{p pos:Pos}{e:Expr}{es:List Expr}{t:TA}
theorem KN (F:wU X.prog X.w X.K X.mg X.base k f fd ps sp) (hr:ia k X.A) (hg:Gl X x) (hm:X.mg x=some (.ref f)) (hk:keepIn X.K (.ref f)=true) (hb:Binds X.K fd ps []) (hx:Passes aK X E)
  (ha:PA X (e::es) t) (i5:(x==("__debug__" : Str))=false:=by decide) (he:starEach (e::es) X.env=(false,eval e X.env)::starEach es X.env:=by rfl) (cS:(backTo pos (starEach es X.env)).any (·.1)=false:=by rfl) :
  PE X (.Call (.Name x p) (e::es) [] pos) (Me (sp X.A.handled) [] E t):=by
 intro pins s σ H Q I h;refine oJ (mw I hg hm ?_ i5);refine HW (h₀:=X.base) I.ok.mod.iq hk (aA (ha pos pins s σ H _ I h) fun us s1 ⟨vs,H1,I1,r,q⟩=>⟨I1.bq,?_⟩) he cS;replace q:sp X.A.handled vs H1 Q E:=by have q0:sp X.A.handled (vs ++ []) H1 Q E:=q;rwa [gP]at q0
 have hl:us.length=ps.length:=by rw[<-r.length];exact F.len _ _ _ _ _ q
 have pR:=hb s1 us I1.bq (by rw[gP];exact hl)
 rw[gP]at pR;refine oH (qq (F.run X.A X.stack s1 H1 ⟨us,[]⟩ us vs Q E hr I1.xf pR r q) fun r s' hq=>?_);cases r with
 |error e=>exact hx pins σ H1 s1 e s' I1 hq
 |ok fl =>
  cases fl with
  |ret u=>exact I1.after hq
  |next=>exact False.elim hq
  |brk=>exact False.elim hq
  |cont=>exact False.elim hq
def Mm (K:Frag):List V->Hp->VK->Prop:=fun xs H Q=>∃a n C dx c cv b,xs = [.ref a,c]/\((∃B,c = .ref B/\cv = .ref B) \/ ∃T,c = .ty T/\cv = .type T)/\H a=some (eU n C dx a)/\eI K C/\(∀d,dx=some d -> ∃fs,H d=some (d7 d fs))/\kitOne K (.ref C) cv=some b/\Q (.bl b) H
theorem Cr:dY X (.builtin "isinstance") (Mm X.K):=by
 intro pins s σ H xs us Q I r h;obtain⟨a,n,C,dx,c,cv,b,rfl,hc,ea,xc,hd,e,q⟩:=h;obtain⟨u,w',rfl,ru,gH⟩:=r.two;cases ru
 have E7:w'=cv:=by
  rcases hc with⟨B,rfl,rfl⟩|⟨T,rfl,rfl⟩
  ·cases gH;rfl
  ·cases gH;rfl
 subst E7;obtain⟨ox,vs,at_,cl,di,da,_⟩:=(I.ar a _ ea).1;cases dx with
 |none =>
  have J:InstAt s.heap a ox C none:=⟨at_,cl,by unfold notCls;rw[da],by rw[di];exact True.intro⟩
  exact kia_one (zu xc) I.bq J e (fun z=>nomatch z) fun tk=>⟨.bl b,H,I.tok _,rfl,q⟩
 |some d =>
  obtain⟨fs,ed⟩:=hd d rfl;obtain⟨_,mA,nn,_⟩:=I.v9 ed;obtain⟨od,iu,_⟩:=sI nn;have J:InstAt s.heap a ox C (some od):=⟨at_,cl,by unfold notCls;rw[da],by rw[di];exact iu⟩
  exact kia_one (zu xc) I.bq J e (fun z=>nomatch z) fun tk=>⟨.bl b,H,I.tok _,rfl,q⟩
end
section
variable{X:Cx}
theorem Cs:dY X (.builtin "len") (fun xs H Q=>∃a kvs,xs = [.ref a]/\H a=some (.dK kvs)/\Q (.int kvs.length) H):=by
 intro pins s σ H xs us Q I r h;obtain⟨a,kvs,rfl,e,q⟩:=h;obtain⟨u,rfl,ru⟩:=vals1 r;cases ru
 exact YC I (.inl e) fun t s' I'=>⟨.int _,H,I',⟨_,rfl⟩,q⟩
end
end L2
namespace L2
open PySem PySem.Spec PyProof.Rows PySem.W HS
end L2
namespace HS
open PySem PySem.Spec PyProof.Rows PySem.W L2
section
variable{P:Program}{w:World}{A:Around}{E:Value->Shared->Prop}{s:Shared}{T:String}{r d:Addr}{n:Nat}{Pv:Nat->Value->Prop}{OK:Heap->Prop}
theorem To {Q:List Value->Shared->Prop} (K:KdlSrc P w T r d n Pv OK) (hh:A.handled=none) (ar:OK s.heap) (hn:n<=sizeLine)
  (q:∀h' tk (vs:List Value),(∀b o,s.heap.get? b=some o->h'.get? b=some o)->ItemsOf Pv vs.toArray n->Q vs { s with heap:=h',toks:=tk }):wpAny (model P w) A (collect (.ref r)) Q E s:=by
 have lt:=K.there _ ar;have key:∀R:Result->Shared->Prop,(∀h' tk (acc:Array Value) c,(∀b o,b≠s.heap.objs.size->(s.heap.push (seqObj "list" #[] 0)).get? b=some o->h'.get? b=some o)->h'.get? s.heap.objs.size=some { cls:= .type "list",dict:=none,data:= .seq acc c,slots:= #[] }->ItemsOf Pv acc n->R (.ok (.ret (.ref s.heap.objs.size))) { s with heap:=h',toks:=tk }) ->
   codeAny (model P w) A (.builtin "list.__iadd__" ⟨[.ref s.heap.objs.size,.ref r],[]⟩) R { s with heap:=s.heap.push (seqObj "list" #[] 0) }:=fun R hR=>by
  refine gQ RF ?_;rw[je yY _];show wpAny _ _ (Builtin.List.listExtendWith (.ref s.heap.objs.size) (.ref r) (.ref s.heap.objs.size)) _ _ { s with heap:=s.heap.push (seqObj "list" #[] 0) };exact kdl_extend (s:={ s with heap:=s.heap.push (seqObj "list" #[] 0) }) K hh (K.keep _ _ ar fun b _ o e=>aT _ e) s.heap.objs.size (lV lt.1) (lV lt.2) _ 0 (bZ _ rfl) (fun h' tk acc c kp e it=>hR h' tk acc c kp e it) hn
 unfold collect;refine ae (yU (gQ RC ?_));rw[je RE _];show wpAny _ A.in1 (newList [] >>= fun z=>again (.builtin "list.__iadd__" ⟨[z,.ref r],[]⟩)) _ _ s;refine ae (yV (aj ⟨kc yY _,key _ fun h' tk acc c kp e it=>?_⟩));show wpAny (model P w) A (load s.heap.objs.size >>= _) Q E _;refine ae (yK e ?_);show wpAny _ _ (pure acc.toList) Q E _;exact aj (q h' tk acc.toList (fun b o hb=>kp b o (bj (aR hb)) (aT _ hb)) (by rw[ahV];exact it))
theorem Uc {ys:List Str}{Q:Value->Shared->Prop} (K:KdlSrc P w T r d n Pv OK) (hh:A.handled=none) (ar:OK s.heap) (kH:n<=63) (hy:∀vs:List Value,ItemsOf Pv vs.toArray n->StrsAre vs ys)
  (hQ:∀D c h' tk (us:List Value) (zs:List Str),(∀b o,s.heap.get? b=some o->h'.get? b=some o)->(∀b o,s.heap.get? b=some o->b≠D)->h'.get? D=some (listOf us.toArray c)->StrsAre us zs->zs.Perm ys->sortedS zs=true->Q (.ref D) { s with heap:=h',toks:=tk }) :
  wpAny (model P w) A (call (.builtin "sorted") [.ref r]) Q E s:=by
 refine RG kind_sorted plain_sorted entry_sorted (args_sorted1 _) ?_;unfold Builtin.«sorted»;refine ae (m:=checkCount "sorted" 1 1 _) (aj (ae (To K hh ar (by rw[aE];omega) fun h1 tk vs k1 it=>?_)))
 have v1:=hy vs it;have lv:vs.length=n:=by have:=it.1;simpa using this
 refine ae (yV ?_ (by rw[aE];omega))
 have fj:(h1.push (seqObj "list" vs.toArray 0)).get? h1.objs.size=some (seqObj "list" vs.toArray 0):=bZ _ rfl;refine ae (cX (jh slot_list_sort ⟨_,fj,rfl⟩ entry_list_sort (list_sort_treeK strKind_oneLt fj v1.keysOf (fun aak aal rest e=>keyKind_strs (by rw[<-e];exact v1)) (by omega) fun fE a1 a2=>⟨_,rfl,?_⟩) (args_list_sort _)))
 obtain⟨eV,b1,b2,b3⟩:=sorted_out_str v1 a1 a2;obtain⟨c,hc⟩:=sortedHeap_at (n:=0) (vs:=vs) (out:=(arrOf fE).map (·.2)) fj;refine aj ⟨_,rfl,hQ _ c _ _ _ eV (fun b o e=>?_) (fun b o e=>bj (aR (k1 b o e))) (by rw[hc]) b1 b2 b3⟩
 have e1:=k1 b o e;have kJ:=aR e1;rw[sortedHeap_old (bj kJ) (by rw[size_push'];exact sk kJ),Heap.get?_push_ne _ _ _ (bj kJ)]
 exact e1
end
end HS
namespace L2
open PySem PySem.Spec PyProof.Rows PySem.W HS
section
variable{X:Cx}
theorem IU:∀ {ks:List Str}{us:List Value},ks.length=us.length->(∀ (i:Nat) x u,ks[i]? = some x->us[i]? = some u -> ∃t,u=Value.str x t)->StrsAre us ks
 |[],[],_,_=>.nil
 |[],_::_,h,_=>by simp at h
 |_::_,[],h,_=>by simp at h
 |x::xs,u::us,h,f=>by
  obtain⟨t,rfl⟩:=f 0 x u rfl rfl;exact .cons _ t (IU (by simpa using h) fun i y v a b=>f (i+1) y v (by simpa using a) (by simpa using b))
theorem SS (hc:X.calm=true):dY X (.builtin "sorted") (fun xs H Q=>∃ (d:Addr) (ks:List (Str×V)),xs = [.ref d]/\H d=some (.dK (ks.map fun p=>(Sum.inr p.1,p.2)))/\ks.length<=63 /\ ∀D eV,H D=none->eV.Perm (ks.map (·.1))->sortedS eV=true->Q (.ref D) (upd H D (.lst (eV.map V.str)))):=by
 intro pins s σ H xs us Q I r h;obtain⟨d,ks,rfl,hd,kH,q⟩:=h;obtain⟨u,rfl,rx⟩:=vals1 r;cases rx
 obtain⟨hz,lo,vs,kv,dd⟩:=zX I.ar hd;obtain⟨ep,da⟩:=dd.dictAt;have hlen:(ks.map fun p=>((Sum.inr p.1:Key),p.2)).length=vs.length:=kv.length;have Mn:ks.length=vs.length:=by rw[<-hlen,ax]
 obtain⟨m,hm,_⟩:=id I.loc;refine Uc (ys:=ks.map (·.1)) (kdl_dict (kvs:=vs) (ep:=ep) lo) (I.ok.hd hc) da (by omega) (fun us it=>?_) fun D c h' tk out ys k hD new fE p' ya=>?_
 ·refine IU (by rw[ax,Mn];have:=it.1;simpa using this.symm) fun i x v hx hv=>?_
  obtain⟨key,y,hk,hi⟩:=it.2 i v (by simpa using hv)
  obtain⟨p,hp,rfl⟩:=iD.mp (by rw[<-gA];exact hx)
  have e:(Sum.inr p.1:Key)=key:=by
   have jC:(ks.map fun p=>((Sum.inr p.1:Key),p.2))[i]? = some (Sum.inr p.1,p.2):=by rw[gA,hp];rfl
   clear it hx hv hlen Mn da dd q hz hd hp kH;generalize (ks.map fun p=>((Sum.inr p.1:Key),p.2))=kl at kv jC
   induction kv generalizing i with
   |nil=>simp at jC
   |cons p _ ih =>
    cases i with
    |zero =>
     simp at jC hk;subst jC;have:=p.1;rw[hk]at this;exact this
    |succ i=>exact ih i (by simpa using hk) (by simpa using jC)
  subst e;exact HI (show Value.isStrOf p.1 v=true from hi)
 ·obtain⟨hn,I'⟩:=Inv.sorted (t':=tk) (ys:=ys.map V.str) I hm (hm.at' fun o e=>k _ _ e) (fun b o _ e=>k b o e) hD new (Cq fE) (by rw[ax,p'.length_eq,ax,aE];omega)
  exact⟨.ref D,_,I',rfl,q _ ys hn p' ya⟩
theorem keyed {kvs:List (Key×V)}:∀ {ks:List Str},kvs.map (·.1)=ks.map Sum.inr -> ∃ps:List (Str×V),kvs=ps.map (fun p=>(Sum.inr p.1,p.2))/\ps.map (·.1)=ks:=by
 induction kvs with
 |nil=>intro ks h;cases ks with
  |nil=>exact⟨[],rfl,rfl⟩
  |cons _ _=>simp at h
 |cons kv kvs ih =>
  intro ks h;cases ks with
  |nil=>simp at h
  |cons k ks =>
   simp only[cA,List.cons.injEq]at h;obtain⟨ps,e1,e2⟩:=ih h.2;refine⟨(k,kv.2)::ps,?_,?_⟩
   ·rw[cA,<-e1,<-h.1]
   ·rw[cA,e2]
theorem Sy (hc:X.calm=true):dY X (.builtin "sorted") (fun xs H Q=>∃ (d:Addr) (kvs:List (Key×V)) (ks:List Str),xs = [.ref d]/\H d=some (.dK kvs)/\kvs.map (·.1)=ks.map Sum.inr/\ks.length<=63 /\ ∀D eV,H D=none->eV.Perm ks->sortedS eV=true->Q (.ref D) (upd H D (.lst (eV.map V.str)))):=by
 intro pins s σ H xs us Q I r h;obtain⟨d,kvs,ks,ex,hd,hk,kH,q⟩:=h;obtain⟨ps,e1,e2⟩:=keyed hk;subst e1;subst e2;exact SS hc pins s σ H xs us Q I r ⟨d,ps,ex,hd,by simpa using kH,q⟩
end
end L2
namespace HT
open PySem PyProof.Rows PySem.W L2
theorem zH {h h':Heap}{d:Addr}{es:Array DictEntry}{ep:Nat} (x:fw h d es ep) (k:∀o,h.get? d=some o->h'.get? d=some o):fw h' d es ep:=let ⟨o,e,r⟩:=x;⟨o,k o e,r⟩
theorem CQ {h h':Heap}{b d:Addr}{es:Array DictEntry}{ep:Nat} (x:fw h d es ep) (k:Heap.ExtBut b h h') (n:d≠b):fw h' d es ep:=zH x fun o e=>k d o n e
section
variable{prog:Program}{w:World}{A:Around}{E:Value->Shared->Prop}{s:Shared}{es:Array DictEntry}{ep:Nat}
theorem Jt {it d:Addr}{i:Nat}{e:DictEntry}{Q:Value->Shared->Prop} (hit:s.heap.IsKeyIter it d i es.size ep) (x:fw s.heap d es ep) (hx:es[i]? = some e)
  (q:∀h',h'.IsKeyIter it d (i+1) es.size ep->Heap.SameBut it s.heap h'->Q e.key { s with heap:=h' }):wpAny (model prog w) A (Builtin.SmallTypes.nextOf (.ref it)) Q E s:=by
 obtain⟨o,ho,hc,hd⟩:=id hit;obtain⟨od,iu,fh,yi⟩:=id x;unfold Builtin.SmallTypes.nextOf;refine ae (qt (name:=Str.ofString "__next__") hit.typeIs BS
  (jh BS hit.typeIs aic ?_ (aid _)))
 refine ae (aj (ae (ae ?_)))
 first|refine ae (Iw hit.typeIs (aj ?_))|refine ae (Iy hit.typeIs (aj ?_))
 refine ae (Ry ho hd ?_);simp only[show Builtin.Dict_items.ownsTuple "dict_keyiterator" = false by decide,oO,j']
 show wpAny _ _ (if (Value.ref d==Value.none)=true then _ else _) _ _ s;rw[au (show ¬ ((Value.ref d==Value.none)=true) from cP)];refine ae (aj (ae (RN iu yi ?_)));rw[au (by simp)]
 refine ae (aj (ae (RO iu yi ?_)));rw[au (by simp)]
 refine aj ?_;simp only[show ¬ ((i:Int) < 0) from by omega,j',nE,hx]
 refine ae ?_
 first|refine ae (Iw hit.typeIs (aj ?_))|refine ae (Iy hit.typeIs (aj ?_))
 refine ae (wpAny_isOneOf_keyiter hit.typeIs ?_);show wpAny _ _ (setField (.ref it) 1 (rawInt ((i:Int)+1)) >>= _) _ _ s;refine ae (qr ho hd (by simp) ?_)
 have Ac:(s.heap.update it (Obj.mapFields (·.setIfInBounds 1 (rawInt ((i:Int)+1))))).IsKeyIter it d (i+1) es.size ep:=
  ⟨_,lW _ ho (Ro (BO hd _)),(Obj.cls_mapFields ..).trans hc,by rw[BO hd];simp[rawInt]⟩
 refine ae (cX (ae (wpAny_isOneOf_keyiter (s:={ s with heap:=s.heap.update it (Obj.mapFields (·.setIfInBounds 1 (rawInt ((i:Int)+1)))) }) Ac.typeIs ?_)));show wpAny _ _ (pure e.key) _ _ _;exact aj (aj ⟨_,rfl,aj (q _ Ac (yW ..))⟩)
theorem Tp {it d:Addr}{Q:Value->Shared->Prop} (hh:A.handled=none) (hit:s.heap.IsKeyIter it d es.size es.size ep) (x:fw s.heap d es ep)
  (q:∀h' e,Heap.ExtBut it s.heap h'->(∃o,h'.get? e=some o/\o.cls = .type "StopIteration")->E (.ref e) { s with heap:=h' }):wpAny (model prog w) A (Builtin.SmallTypes.nextOf (.ref it)) Q E s:=by
 obtain⟨o,ho,hc,hd⟩:=id hit;obtain⟨od,iu,fh,yi⟩:=id x;unfold Builtin.SmallTypes.nextOf;refine ae (qt (name:=Str.ofString "__next__") hit.typeIs BS
  (jh BS hit.typeIs aic ?_ (aid _)))
 refine ae (aj (ae (ae ?_)))
 first|refine ae (Iw hit.typeIs (aj ?_))|refine ae (Iy hit.typeIs (aj ?_))
 refine ae (Ry ho hd ?_);simp only[show Builtin.Dict_items.ownsTuple "dict_keyiterator" = false by decide,oO,j']
 show wpAny _ _ (if (Value.ref d==Value.none)=true then _ else _) _ _ s;rw[au (show ¬ ((Value.ref d==Value.none)=true) from cP)];refine ae (aj (ae (RN iu yi ?_)));rw[au (by simp)]
 refine ae (aj (ae (RO iu yi ?_)));rw[au (by simp)]
 refine aj ?_;simp only[show ¬ ((es.size:Int) < 0) from by omega,j',nE,BR (aO es.size)]
 refine ae ?_
 first|refine ae (Iw hit.typeIs (aj ?_))|refine ae (Iy hit.typeIs (aj ?_))
 show wpAny _ _ (setField (.ref it) 0 .none >>= _) _ _ s;refine ae (qr ho hd (by simp) ?_)
 show wpAny _ _ (newExc (.type "StopIteration") [] >>= _) _ _ _;refine ae ?_;simp only[newExc,newTuple];refine ae (j9 ?_ (by size_fits))
 refine ae (m:=firstArgMember _ _) (Il (a:=Value.none) (by first|rfl|(simp only[firstArgMember];rfl)) ?_)
 refine j9 ?_ (by size_fits)
 simp only[raiseNew];refine ae (Ij ?_);rw[show A.in1.handled=none from hh];refine ae (aj (sh ?_));exact q _ _ (((yW ..).extBut.push _).push _) ⟨_,bZ _ rfl,rfl⟩
theorem UZ {z TI TO i1 i2 l1 l2:Addr}{k1 k2:Nat}{ys:Array Value}{ee:DictEntry}{y:Value}{Q:Value->Shared->Prop} (D:ZipApart z TI TO i1 i2 l1 l2) (hz:nW s.heap z TI TO) (eg:IsPair s.heap TI (.ref i1) (.ref i2))
  (h1:s.heap.IsKeyIter i1 l1 k1 es.size ep) (h2:s.heap.IsListIter i2 l2 k2) (cy:fw s.heap l1 es ep) (dk:s.heap.IsList l2 ys) (hx:es[k1]? = some ee) (hy:ys[k2]? = some y)
  (q:∀h',nW h' z TI TO->h'.IsKeyIter i1 l1 (k1+1) es.size ep->h'.IsListIter i2 l2 (k2+1)->IsPair h' s.heap.objs.size ee.key y->(∀c o,c≠z->c≠i1->c≠i2->s.heap.get? c=some o->h'.get? c=some o)->Q (.ref s.heap.objs.size) { s with heap:=h' }) :
  wpAny (model prog w) A (Builtin.«zip.__next__» ⟨[.ref z],[]⟩) (fun fin s'=>∃v,fin = .done (.ret v)/\Q v s') E s:=by
 obtain⟨a,f1,o,e,ea,nz⟩:=id hz;refine ae (m:=field (.ref z) 2) (eQ e rfl (x:= .bool false) rfl (ae (m:=field (.ref z) 3) (eQ e rfl (x:= .ref TI) rfl (ae (nF eg rfl ?_)))));refine ae (m:=Builtin.SmallTypes.ownedTupleIsFree (.ref z)) (JP hz fun g1 zo b1=>?_);simp only[oO,j'];refine ae ?_;simp only[List.forIn_toArray,BE,BF];refine ae (ae (cX (?_:wpAny _ _ (Builtin.SmallTypes.nextOf (.ref i1) >>= _) _ _ _)));refine ae (Jt (s:={ s with heap:=g1 }) (h1.extBut b1.extBut D.i1z) (CQ cy b1.extBut D.l1z) hx fun g2 t2 b2=>aj (aj ?_));refine ae (ae (cX (?_:wpAny _ _ (Builtin.SmallTypes.nextOf (.ref i2) >>= _) _ _ _)));refine ae (wpAny_nextOf_list_item (s:={ s with heap:=g2 }) ((h2.extBut b1.extBut D.i2z).extBut b2.extBut D.i12.symm) ((dk.extBut b1.extBut D.l2z).extBut b2.extBut D.l2i1) hy fun g3 t3 b3=>aj (aj (aj ?_)));refine ae (m:=newTuple [ee.key,y]) (Rv (aj ⟨_,rfl,?_⟩));have sz:g3.objs.size=s.heap.objs.size:=by rw[b3.1,b2.1,b1.1]
 show Q (.ref g3.objs.size) _;rw[sz];obtain⟨a',f',o',e',ea',nz'⟩:=zo;have up:∀c u,c≠i1->c≠i2->g1.get? c=some u->(g3.push { cls:= .type "tuple",data:= .seq #[ee.key,y] }).get? c=some u:=fun c u n1 n2 z=>aT _ (b3.extBut c u n2 (b2.extBut c u n1 z));have al:∃u,(g3.push { cls:= .type "tuple",data:= .seq #[ee.key,y] }).get? a'=some u:=by
  by_cases n1:a'=i1
  ·obtain⟨u,hu,_⟩:=t2.extBut b3.extBut D.i12
   exact⟨u,by rw[n1];exact aT _ hu⟩
  ·by_cases n2:a'=i2
   ·obtain⟨u,hu,_⟩:=t3
    exact⟨u,by rw[n2];exact aT _ hu⟩
   ·exact⟨o',up _ _ n1 n2 ea'⟩
 obtain⟨u,hu⟩:=al;refine q _ ⟨a',f',u,up _ _ D.i1z.symm D.i2z.symm e',hu,nz'⟩ ?_ ?_ ?_ fun c u n0 n1 n2 z=>up c u n1 n2 (b1.extBut c u n0 z)
 ·obtain⟨v,hv,r⟩:=t2.extBut b3.extBut D.i12
  exact⟨v,aT _ hv,r⟩
 ·obtain⟨v,hv,r⟩:=t3
  exact⟨v,aT _ hv,r⟩
 ·rw[<-sz];exact bZ _ rfl
theorem U0 {z TI TO i1 i2 l1 l2:Addr}{Q:Fin->Shared->Prop} (hh:A.handled=none) (D:ZipApart z TI TO i1 i2 l1 l2) (hz:nW s.heap z TI TO) (eg:IsPair s.heap TI (.ref i1) (.ref i2))
  (h1:s.heap.IsKeyIter i1 l1 es.size es.size ep) (cy:fw s.heap l1 es ep)
  (q:∀h' e,(∀c o,c≠z->c≠i1->s.heap.get? c=some o->h'.get? c=some o)->(∃o,h'.get? e=some o/\o.cls = .type "StopIteration")->E (.ref e) { s with heap:=h' }) :
  wpAny (model prog w) A (Builtin.«zip.__next__» ⟨[.ref z],[]⟩) Q E s:=by
 obtain⟨a,f1,o,e,ea,nz⟩:=id hz;refine ae (m:=field (.ref z) 2) (eQ e rfl (x:= .bool false) rfl (ae (m:=field (.ref z) 3) (eQ e rfl (x:= .ref TI) rfl (ae (nF eg rfl ?_)))));refine ae (m:=Builtin.SmallTypes.ownedTupleIsFree (.ref z)) (JP hz fun g1 zo b1=>?_);simp only[oO,j'];refine ae ?_;simp only[List.forIn_toArray,BE,BF];refine ae (ae (cX (?_:wpAny _ _ (Builtin.SmallTypes.nextOf (.ref i1) >>= _) _ _ _)));exact ae (Tp (s:={ s with heap:=g1 }) hh (h1.extBut b1.extBut D.i1z) (CQ cy b1.extBut D.l1z) fun g2 x b2 he=>q g2 x (fun c u n0 n1 z=>b2 c u n1 (b1.extBut c u n0 z)) he)
theorem Ud {z TI TO i1 i2 l1 l2:Addr}{k1 k2:Nat}{ys:Array Value}{ee:DictEntry}{y:Value}{Q:Option Value->Shared->Prop} (D:ZipApart z TI TO i1 i2 l1 l2) (hz:nW s.heap z TI TO) (eg:IsPair s.heap TI (.ref i1) (.ref i2))
  (h1:s.heap.IsKeyIter i1 l1 k1 es.size ep) (h2:s.heap.IsListIter i2 l2 k2) (cy:fw s.heap l1 es ep) (dk:s.heap.IsList l2 ys) (hx:es[k1]? = some ee) (hy:ys[k2]? = some y)
  (q:∀h',nW h' z TI TO->h'.IsKeyIter i1 l1 (k1+1) es.size ep->h'.IsListIter i2 l2 (k2+1)->IsPair h' s.heap.objs.size ee.key y->(∀c o,c≠z->c≠i1->c≠i2->s.heap.get? c=some o->h'.get? c=some o)->Q (some (.ref s.heap.objs.size)) { s with heap:=h' }) :
  wpAny (model prog w) A (pyNext (.ref z)) Q E s:=by
 obtain⟨a,f1,o,e,_⟩:=id hz;have hT:s.TypeIs (.ref z) "zip" :=⟨_,e,rfl⟩;unfold pyNext;exact ae (sf (qt (name:=Str.ofString "__next__") hT sr (jh sr hT Iu (UZ D hz eg h1 h2 cy dk hx hy fun h' a1 a2 a3 a4 a5=>aj (q h' a1 a2 a3 a4 a5)) (Iv _))))
theorem Ue {z TI TO i1 i2 l1 l2:Addr}{Q:Option Value->Shared->Prop} (hh:A.handled=none) (D:ZipApart z TI TO i1 i2 l1 l2) (hz:nW s.heap z TI TO) (eg:IsPair s.heap TI (.ref i1) (.ref i2))
  (h1:s.heap.IsKeyIter i1 l1 es.size es.size ep) (cy:fw s.heap l1 es ep) (q:∀h',(∀c o,c≠z->c≠i1->s.heap.get? c=some o->h'.get? c=some o)->Q none { s with heap:=h' }):wpAny (model prog w) A (pyNext (.ref z)) Q E s:=by
 obtain⟨a,f1,o,e,_⟩:=id hz;have hT:s.TypeIs (.ref z) "zip" :=⟨_,e,rfl⟩;unfold pyNext;refine ae (sf (qt (name:=Str.ofString "__next__") hT sr (jh sr hT Iu (U0 hh D hz eg h1 cy fun h' x ex ⟨o,ho,hc⟩=>?_) (Iv _))));exact ae (BQ (T:= "StopIteration") (b:=true) ⟨o,ho,hc⟩ Im (aj (q _ ex)))
theorem U1 {z TI TO i1 i2:Addr}{x y a b:Value}{T1 T2:Heap->Prop}{Q:Value->Shared->Prop} (ne:TI≠z/\TO≠z/\i1≠z/\i2≠z/\TO≠i1/\TO≠i2/\i1≠i2)
  (hz:IsZip s.heap z TI TO .none) (hI:IsPair s.heap TI (.ref i1) (.ref i2)) (hO:IsPair s.heap TO a b)
  (n1:∀ (g:Heap) (Q':Value->Shared->Prop) (E':Value->Shared->Prop),Heap.ExtBut z s.heap g->(∀h',T1 h'->Heap.SameBut i1 g h'->Q' x { s with heap:=h' })->wpAny (model prog w) A (Builtin.SmallTypes.nextOf (.ref i1)) Q' E' { s with heap:=g })
  (n2:∀ (g:Heap) (Q':Value->Shared->Prop) (E':Value->Shared->Prop),(∀c o,c≠z->c≠TO->c≠i1->s.heap.get? c=some o->g.get? c=some o)->(∀h',T2 h'->Heap.SameBut i2 g h'->Q' y { s with heap:=h' })->wpAny (model prog w) A (Builtin.SmallTypes.nextOf (.ref i2)) Q' E' { s with heap:=g })
  (m1:∀g h',T1 g->(∀o,g.get? i1=some o->h'.get? i1=some o)->T1 h') (m2:∀g h',T2 g->(∀o,g.get? i2=some o->h'.get? i2=some o)->T2 h')
  (q:∀h',IsZip h' z TI TO (rawInt s.heap.objs.size)->T1 h'->T2 h'->IsPair h' s.heap.objs.size x y->(∀c o,c≠z->c≠TO->c≠i1->c≠i2->s.heap.get? c=some o->h'.get? c=some o)->Q (.ref s.heap.objs.size) { s with heap:=h' }) :
  wpAny (model prog w) A (Builtin.«zip.__next__» ⟨[.ref z],[]⟩) (fun fin s'=>∃v,fin = .done (.ret v)/\Q v s') E s:=by
 obtain⟨nIz,Ov,Ow,Ox,Fy,Oy,yj⟩:=ne;refine ae (m:=field (.ref z) 2) (eQ hz rfl (x:= .bool false) rfl (ae (m:=field (.ref z) 3) (eQ hz rfl (x:= .ref TI) rfl (ae (nF hI rfl (ae (m:=Builtin.SmallTypes.ownedTupleIsFree (.ref z)) ?_))))));unfold Builtin.SmallTypes.ownedTupleIsFree;refine ae (eQ hz rfl (x:= .none) rfl (aj ?_));simp only[oM];refine ae (lU (ae (eQ hz rfl (x:= .ref TO) rfl (ae (lX hz (by simp) fun g1 (e1:IsZip g1 z TI TO .ellipsis) b1=>ae ?_)))))
 simp only[List.zipIdx_cons,List.zipIdx_nil,BE,BF];refine ae (ae (RP (ae (m:=Builtin.SmallTypes.nextOf (.ref i1)) (n1 g1 _ _ b1.extBut fun g2 u1 b2=>aj ?_))));have o2:IsPair g2 TO a b:=b2.extBut _ _ Fy (b1.extBut _ _ Ov hO);refine ae (nF o2 rfl (ae (wpAny_updateSeq_pair o2 fun g3 (o3:IsPair g3 TO x b) b3=>ae (wpAny_letGo (aj ?_)))));refine ae (ae (RP (ae (m:=Builtin.SmallTypes.nextOf (.ref i2)) (n2 g3 _ _ (fun c o c1 c2 c3 e=>b3.extBut _ _ c2 (b2.extBut _ _ c3 (b1.extBut _ _ c1 e))) fun g4 u2 b4=>aj ?_))));have o4:IsPair g4 TO x b:=b4.extBut _ _ Oy o3;refine ae (nF o4 rfl (ae (wpAny_updateSeq_pair o4 fun g5 (o5:IsPair g5 TO x y) b5=>ae (wpAny_letGo (aj (aj ?_))))));have sz:g5.objs.size=s.heap.objs.size:=by rw[b5.1,b4.1,b3.1,b2.1,b1.1]
 have up:∀c o,c≠TO->c≠i1->c≠i2->g1.get? c=some o->g5.get? c=some o:=fun c o c2 c3 c4 e=>b5.extBut _ _ c2 (b4.extBut _ _ c4 (b3.extBut _ _ c2 (b2.extBut _ _ c3 e)));have e5:IsZip g5 z TI TO .ellipsis:=up _ _ Ov.symm Ow.symm Ox.symm e1;have zl:z < g5.objs.size:=aR e5;refine ae (nF o5 rfl (ae (Rv (ae (m:=Builtin.SmallTypes.ownedTupleHandOut (.ref z) (.ref g5.objs.size)) ?_))));unfold Builtin.SmallTypes.ownedTupleHandOut;refine ae (lX (show IsZip (g5.push { cls:= .type "tuple",data:= .seq #[x,y] }) z TI TO .ellipsis from aT _ e5) (by simp) fun g6 (e6:IsZip g6 z TI TO (rawInt g5.objs.size)) b6=>lX e6 (by simp) fun g7 (e7:IsZip g7 z TI TO (rawInt g5.objs.size)) b7=>aj ⟨_,rfl,?_⟩)
 have fin:∀c o,c≠z->g5.get? c=some o->g7.get? c=some o:=fun c o c1 e=>b7.extBut _ _ c1 (b6.extBut _ _ c1 (aT _ e));have pr:IsPair g7 g5.objs.size x y:=b7.extBut _ _ (lV zl) (b6.extBut _ _ (lV zl) (bZ _ rfl));have f1:T1 g7:=m1 g2 g7 u1 fun o e=>fin _ o Ow (b5.extBut _ _ Fy.symm (b4.extBut _ _ yj (b3.extBut _ _ Fy.symm e)));have f2:T2 g7:=m2 g4 g7 u2 fun o e=>fin _ o Ox (b5.extBut _ _ Oy.symm e);rw[sz]at e7 pr;have:=q g7 e7 f1 f2 pr fun c o c1 c2 c3 c4 e=>fin c o c1 (up c o c2 c3 c4 (b1.extBut _ _ c1 e));show Q (.ref g5.objs.size) _;rw[sz];exact this
theorem Tq {z TI TO i1 i2 l1 l2:Addr}{k1 k2:Nat}{ys:Array Value}{ee:DictEntry}{y a b:Value}{Q:Option Value->Shared->Prop} (D:ZipApart z TI TO i1 i2 l1 l2) (hz:IsZip s.heap z TI TO .none) (eg:IsPair s.heap TI (.ref i1) (.ref i2)) (lM:IsPair s.heap TO a b)
  (h1:s.heap.IsKeyIter i1 l1 k1 es.size ep) (h2:s.heap.IsListIter i2 l2 k2) (cy:fw s.heap l1 es ep) (dk:s.heap.IsList l2 ys) (hx:es[k1]? = some ee) (hy:ys[k2]? = some y)
  (q:∀h',IsZip h' z TI TO (rawInt s.heap.objs.size)->h'.IsKeyIter i1 l1 (k1+1) es.size ep->h'.IsListIter i2 l2 (k2+1)->IsPair h' s.heap.objs.size ee.key y->(∀c o,c≠z->c≠TO->c≠i1->c≠i2->s.heap.get? c=some o->h'.get? c=some o)->Q (some (.ref s.heap.objs.size)) { s with heap:=h' }) :
  wpAny (model prog w) A (pyNext (.ref z)) Q E s:=by
 have hT:s.TypeIs (.ref z) "zip" :=⟨_,hz,rfl⟩;unfold pyNext;refine ae (sf (qt (name:=Str.ofString "__next__") hT sr (jh sr hT Iu ?_ (Iv _))));refine U1 (T1:=fun h=>h.IsKeyIter i1 l1 (k1+1) es.size ep) (T2:=fun h=>h.IsListIter i2 l2 (k2+1)) ⟨D.TIz,D.TOz,D.i1z,D.i2z,D.TOi1,D.TOi2,D.i12⟩ hz eg lM (fun g Q' E' k r=>?_) (fun g Q' E' k r=>?_) (fun g h' t k=>t.at k) (fun g h' t k=>t.at k) fun h' a1 a2 a3 a4 a5=>aj (q h' a1 a2 a3 a4 a5)
 ·exact Jt (s:={ s with heap:=g }) (h1.extBut k D.i1z) (CQ cy k D.l1z) hx r
 ·exact wpAny_nextOf_list_item (s:={ s with heap:=g }) (h2.at fun o e=>k _ o D.i2z D.TOi2.symm D.i12.symm e) (dk.at fun o e=>k _ o D.l2z D.l2TO D.l2i1 e) hy r
end
theorem aan {h:Heap}{o1 o2 o3 o4 o5:Obj} (f1:o1.isFreed=false) (f2:o2.isFreed=false) (f3:o3.isFreed=false) (f4:o4.isFreed=false) (f5:o5.isFreed=false) :
  (((((h.push o1).push o2).push o3).push o4).push o5).get? h.objs.size=some o1/\(((((h.push o1).push o2).push o3).push o4).push o5).get? (h.objs.size+1)=some o2/\(((((h.push o1).push o2).push o3).push o4).push o5).get? (h.objs.size+2)=some o3/\(((((h.push o1).push o2).push o3).push o4).push o5).get? (h.objs.size+3)=some o4/\(((((h.push o1).push o2).push o3).push o4).push o5).get? (h.objs.size+4)=some o5 /\
   (((((h.push o1).push o2).push o3).push o4).push o5).objs.size=h.objs.size+5 /\ ∀c o,h.get? c=some o->(((((h.push o1).push o2).push o3).push o4).push o5).get? c=some o:=by
 have up:∀ (g:Heap) (x:Obj) c o,g.get? c=some o->(g.push x).get? c=some o:=fun g x c o e=>aT _ e;have s1:(h.push o1).objs.size=h.objs.size+1:=jH ..;have s2:((h.push o1).push o2).objs.size=h.objs.size+2:=by rw[jH,s1]
 have s3:(((h.push o1).push o2).push o3).objs.size=h.objs.size+3:=by rw[jH,s2]
 have s4:((((h.push o1).push o2).push o3).push o4).objs.size=h.objs.size+4:=by rw[jH,s3]
 refine⟨up _ _ _ _ (up _ _ _ _ (up _ _ _ _ (up _ _ _ _ (bZ _ f1)))),?_,?_,?_,?_,by rw[jH,s4],fun c o e=>up _ _ _ _ (up _ _ _ _ (up _ _ _ _ (up _ _ _ _ (up _ _ _ _ e))))⟩
 ·rw[<-s1];exact up _ _ _ _ (up _ _ _ _ (up _ _ _ _ (bZ _ f2)))
 ·rw[<-s2];exact up _ _ _ _ (up _ _ _ _ (bZ _ f3))
 ·rw[<-s3];exact up _ _ _ _ (bZ _ f4)
 ·rw[<-s4];exact bZ _ f5
structure LX (h h':Heap) (d l2:Addr) (es:Array DictEntry) (ep:Nat):Prop where
 z:IsZip h' (h.objs.size+4) (h.objs.size+2) (h.objs.size+3) .none
 i:IsPair h' (h.objs.size+2) (.ref h.objs.size) (.ref (h.objs.size+1))
 o:IsPair h' (h.objs.size+3) .none .none
 t1:h'.IsKeyIter h.objs.size d 0 es.size ep
 t2:h'.IsListIter (h.objs.size+1) l2 0
 sz:h'.objs.size=h.objs.size+5
 up:∀c o,h.get? c=some o->h'.get? c=some o
theorem Ug (d l2:Addr) (es:Array DictEntry) (ep:Nat) (ys:Array Value) (hd:(d==sysModules)=false) :
  Meets (Builtin.«zip.__new__» ⟨[.type "zip",.ref d,.ref l2],[]⟩) (fun _ R s=>fw s.heap d es ep/\s.heap.IsList l2 ys /\ ∀h',LX s.heap h' d l2 es ep->R (.ok (.ret (.ref (s.heap.objs.size+4)))) { s with heap:=h' }):=
 .of_wp fun prog w A R s h=>by
  obtain⟨hp,g,dd,tk,os⟩:=s;obtain⟨x,y,k⟩:=h;have aiK:=sub_zip;have x1:fw (Shared.heap ⟨hp,g,dd,tk,os⟩) d es ep:=x;have y1:Heap.IsList (Shared.heap ⟨hp.push { cls:= .type "dict_keyiterator",data:= .fields #[.ref d,.int 0 0,.int es.size 0,.int ep 0] },g,dd,tk,os⟩) l2 ys:=Heap.IsList.push y _
  wp_walk using VP hd x1,yL y1
  refine⟨_,rfl,?_⟩;simp only[jH];have F:=@aan hp { cls:= .type "dict_keyiterator",data:= .fields #[.ref d,.int 0 0,.int es.size 0,.int ep 0] } { cls:= .type "list_iterator",data:= .fields #[.ref l2,.int 0 0] } { cls:= .type "tuple",data:= .seq #[.ref hp.objs.size,.ref (hp.objs.size+1)] } { cls:= .type "tuple",data:= .seq #[.none,.none] } { cls:= .type "zip",data:= .fields #[.none,.bool false,.bool false,.ref (hp.objs.size+2),.ref (hp.objs.size+3)] } rfl rfl rfl rfl rfl;obtain⟨a1,a2,a3,a4,a5,a6,a7⟩:=F;exact k _ ⟨a5,a3,a4,⟨_,a1,rfl,rfl⟩,⟨_,a2,rfl,rfl⟩,a6,a7⟩
section
variable{prog:Program}{w:World}{A:Around}{E:Value->Shared->Prop}{s:Shared}{es:Array DictEntry}{ep:Nat}
theorem U2 {d l2:Addr}{ys:Array Value}{Q:Value->Shared->Prop} (hd:(d==sysModules)=false) (x:fw s.heap d es ep) (y:s.heap.IsList l2 ys) (q:∀h',LX s.heap h' d l2 es ep->Q (.ref (s.heap.objs.size+4)) { s with heap:=h' }) :
  wpAny (model prog w) A (call (.type "zip") [.ref d,.ref l2]) Q E s:=
 callType_new F.called_zip (by decide) (F.typeCall_zip_2 _ _) (F.newCall_zip_2 _ _) (fun obj=>F.args_object_init_3 obj _ _) F.entry_zip_new (Ug d l2 es ep ys hd) ⟨x,y,fun h' n=>⟨⟨_,n.z,rfl⟩,q h' n⟩⟩
end
section
variable{prog:Program}{w:World}{A:Around}{R:Result->Shared->Prop}{z TI TO i1 i2 l1 l2 d:Addr}{ys:Array Value}{g:Heap}{es:Array DictEntry}{ep:Nat}
theorem U3 (hh:A.in1.handled=none) (D:ZipApart z TI TO i1 i2 l1 l2) (N:Dv d z TI TO i1 i2 l1 l2) (ps:List (Key×Value)) (nd:(ps.map (·.1)).Nodup) (hz:ps.length<=sizeLine) (hsz:es.size=ps.length)
  (gK:∀ (i:Nat) p,ps[i]? = some p -> ∃e,es[i]? = some e/\ys[i]? = some p.2/\(bB prog w).is p.1 e.key=true) (cy:fw g l1 es ep) (dk:g.IsList l2 ys) :
  ∀ (m k:Nat) (s:Shared),ps.length - k=m->k<=ps.length->nW s.heap z TI TO->IsPair s.heap TI (.ref i1) (.ref i2)->s.heap.IsKeyIter i1 l1 k es.size ep->s.heap.IsListIter i2 l2 k->s.heap.DictOf (bB prog w) d (ps.take k) ->
   (∀b o,b≠z->b≠TO->b≠i1->b≠i2->b≠d->g.get? b=some o->s.heap.get? b=some o) ->
   (∀h' tk,h'.DictOf (bB prog w) d ps->(∀b o,b≠z->b≠TO->b≠i1->b≠i2->b≠d->g.get? b=some o->h'.get? b=some o)->R (.ok (.ret .none)) { s with heap:=h',toks:=tk }) ->
   codeAny (model prog w) A (.builtin "dict.update.loop" ⟨[.ref d,.ref z,rawInt k,.none],[]⟩) R s:=by
 intro m
 induction m with
 |zero =>
  intro k s hm hk zo eg t1 t2 dd kp hR;have ek:k=ps.length:=by omega
  refine gQ vQ (?_:wpAny _ _ _ _ _ _);rw[je mh _];show wpAny _ A.in1 (pyNext (.ref z) >>= _) _ _ s;refine ae (Ue hh D zo eg (show s.heap.IsKeyIter i1 l1 es.size es.size ep by rw[show k=es.size by omega]at t1;exact t1) (zH cy fun o e=>kp _ o D.l1z D.l1TO D.l1i1 D.l1i2 N.l1.symm e) fun h' k'=>?_)
  refine ae (m:=Builtin.Dict.addKeywords d []) (aj (aj ?_));have iK:h'.DictOf (bB prog w) d (ps.take k):=dd.at fun o e=>k' d o N.z N.i1 e;rw[ek,du]at iK;exact hR h' s.toks iK fun b o a1 a2 a3 a4 a5 e=>k' b o a1 a3 (kp b o a1 a2 a3 a4 a5 e)
 |succ m ih =>
  intro k s hm hk zo eg t1 t2 dd kp hR;have aP:k < ps.length:=by omega
  have hp:ps[k]? = some ps[k]:=bH aP;obtain⟨x,hx,hy,ju⟩:=gK k _ hp;have Fi:ps.take (k+1)=ps.take k ++ [ps[k]]:=by rw[df,hp];rfl
  have new:ps[k].1 ∉ (ps.take k).map (·.1):=fun w=>by
   have e:ps.map (·.1)=(ps.take k).map (·.1)++(ps.drop k).map (·.1):=by rw[<-bc,Rq]
   rw[e,jg]at nd;refine nd.2.2 _ w _ ?_ rfl;rw[yS aP];exact aZ
  refine gQ vQ (?_:wpAny _ _ _ _ _ _);rw[je mh _];show wpAny _ A.in1 (pyNext (.ref z) >>= _) _ _ s;refine ae (Ud D zo eg t1 t2 (zH cy fun o e=>kp _ o D.l1z D.l1TO D.l1i1 D.l1i2 N.l1.symm e) (dk.at fun o e=>kp _ o D.l2z D.l2TO D.l2i1 D.l2i2 N.l2.symm e) hx hy fun h' zo' x6 Fz pr k'=>?_);have iK:h'.DictOf (bB prog w) d (ps.take k):=dd.at fun o e=>k' d o N.z N.i1 N.i2 e;refine ae (Kr (s:={ s with heap:=h' }) (k:=ps[k].1) pr ju iK new (by rw[cK];omega) fun iw tk t9 sb=>?_)
  rw[show((k:Int)+1)=((k+1:Nat):Int) from rfl];refine aj ⟨kc mh _,ih (k+1) _ (by omega) aP ?_ ?_ (x6.extBut sb.extBut N.i1.symm) (Fz.extBut sb.extBut N.i2.symm) (by rw[Fi];exact t9) (fun b o a1 a2 a3 a4 a5 e=>sb.extBut b o a5 (k' b o a1 a3 a4 (kp b o a1 a2 a3 a4 a5 e))) hR⟩
  ·obtain⟨a,f1,o,e,ea,na⟩:=zo'
   have al:∃u,iw.get? a=some u:=by
    by_cases w:a=d
    ·obtain⟨q,_,_,hq,_⟩:=t9
     exact⟨q,by rw[w];exact hq⟩
    ·exact⟨o,sb.extBut _ _ w ea⟩
   obtain⟨u,hu⟩:=al;exact⟨a,f1,u,sb.extBut _ _ N.z.symm e,hu,na⟩
  ·exact sb.extBut _ _ N.TI.symm (k' _ _ D.TIz D.TIi1 D.TIi2 eg)
theorem Uh (hh:A.in1.handled=none) (D:ZipApart z TI TO i1 i2 l1 l2) (N:Dv d z TI TO i1 i2 l1 l2) (ps:List (Key×Value)) (bx:ps ≠ []) (nd:(ps.map (·.1)).Nodup) (hz:ps.length<=sizeLine) (hsz:es.size=ps.length)
  (gK:∀ (i:Nat) p,ps[i]? = some p -> ∃e,es[i]? = some e/\ys[i]? = some p.2/\(bB prog w).is p.1 e.key=true) (cy:fw g l1 es ep) (dk:g.IsList l2 ys) {s:Shared}{a b:Value}
  (zo:IsZip s.heap z TI TO .none) (eg:IsPair s.heap TI (.ref i1) (.ref i2)) (lM:IsPair s.heap TO a b) (t1:s.heap.IsKeyIter i1 l1 0 es.size ep) (t2:s.heap.IsListIter i2 l2 0) (dd:s.heap.DictOf (bB prog w) d [])
  (kp:∀b o,b≠z->b≠TO->b≠i1->b≠i2->b≠d->g.get? b=some o->s.heap.get? b=some o)
  (hR:∀h' tk,h'.DictOf (bB prog w) d ps->(∀b o,b≠z->b≠TO->b≠i1->b≠i2->b≠d->g.get? b=some o->h'.get? b=some o)->R (.ok (.ret .none)) { s with heap:=h',toks:=tk }) :
  codeAny (model prog w) A (.builtin "dict.update.loop" ⟨[.ref d,.ref z,rawInt 0,.none],[]⟩) R s:=by
 refine gQ vQ (?_:wpAny _ _ _ _ _ _);rw[je mh _];show wpAny _ A.in1 (pyNext (.ref z) >>= _) _ _ s;have L1:fw s.heap l1 es ep:=zH cy fun o e=>kp _ o D.l1z D.l1TO D.l1i1 D.l1i2 N.l1.symm e;have L2:s.heap.IsList l2 ys:=dk.at fun o e=>kp _ o D.l2z D.l2TO D.l2i1 D.l2i2 N.l2.symm e;cases ps with
 |nil=>exact absurd rfl bx
 |cons p ps =>
  obtain⟨x,hx,hy,ju⟩:=gK 0 p rfl;refine ae (Tq D zo eg lM t1 t2 L1 L2 hx hy fun h' z1 x6 Fz pr k'=>?_);have iK:h'.DictOf (bB prog w) d []:=dd.at fun o e=>k' d o N.z N.TO N.i1 N.i2 e;refine ae (Kr (s:={ s with heap:=h' }) (k:=p.1) pr ju iK (by simp) (bG _) fun iw tk t9 sb=>?_)
  have zlt:z < s.heap.objs.size:=aR zo;have uQ:d < s.heap.objs.size:=by obtain⟨q,_,_,hq,_⟩:=dd;exact aR hq
  refine aj ⟨kc mh _,?_⟩;exact U3 (es:=es) (ep:=ep) (ys:=ys) (g:=g) hh D N (p::ps) nd hz hsz gK cy dk _ 1 _ rfl (by simp) ⟨s.heap.objs.size,false,_,sb.extBut _ _ N.z.symm z1,sb.extBut _ _ (lV uQ) pr,lV zlt⟩ (sb.extBut _ _ N.TI.symm (k' _ _ D.TIz D.TITO D.TIi1 D.TIi2 eg)) (x6.extBut sb.extBut N.i1.symm) (Fz.extBut sb.extBut N.i2.symm) t9 (fun b o a1 a2 a3 a4 a5 e=>sb.extBut b o a5 (k' b o a1 a2 a3 a4 (kp b o a1 a2 a3 a4 a5 e))) hR
theorem So {E:Value->Shared->Prop}{Q:Value->Shared->Prop}{s:Shared} (hh:A.handled=none) (ps:List (Key×Value)) (bx:ps ≠ []) (nd:(ps.map (·.1)).Nodup) (hz:ps.length<=sizeLine) (hsz:es.size=ps.length)
  (gK:∀ (i:Nat) p,ps[i]? = some p -> ∃e,es[i]? = some e/\ys[i]? = some p.2/\(bB prog w).is p.1 e.key=true) (hm:(l1==sysModules)=false) (cy:fw s.heap l1 es ep) (dk:s.heap.IsList l2 ys)
  (q:∀h' tk,h'.DictOf (bB prog w) (s.heap.objs.size+5) ps->(∀b o,s.heap.get? b=some o->h'.get? b=some o)->Q (.ref (s.heap.objs.size+5)) { s with heap:=h',toks:=tk }) :
  wpAny (model prog w) A (call (.type "zip") [.ref l1,.ref l2]) (fun v s1=>wpAny (model prog w) A (call (.type "dict") [v]) Q E s1) E s:=by
 have kJ:(l1:Nat) < s.heap.objs.size:=by obtain⟨o,e,_⟩:=id cy;exact aR e
 have AY:(l2:Nat) < s.heap.objs.size:=by obtain⟨o,e,_⟩:=id dk;exact aR e
 refine U2 hm cy dk fun h1 ⟨z1,pI,pO,t1,t2,zs,k1⟩=>?_;have D:=zipApart_new kJ AY;have N:Dv (s.heap.objs.size+5) (s.heap.objs.size+4) (s.heap.objs.size+2) (s.heap.objs.size+3) s.heap.objs.size (s.heap.objs.size+1) l1 l2:=⟨nn (by omega),nn (by omega),nn (by omega),nn (by omega),nn (by omega),nn (.inr (vD 5 kJ)),nn (.inr (vD 5 AY))⟩
 refine callType_codes (Q₁:=fun obj aY=>obj = .ref h1.objs.size/\aY={ s with heap:=h1.push { cls:= .type "dict",data:= .dict #[] } }) F.kt_called_dict (F.kt_typeCall_dict_1 _) F.entry_dict_init (kt_code_dict_new _ ⟨rfl,rfl⟩) ?_;rintro obj aY ⟨rfl,rfl⟩;have dn:(h1.push { cls:= .type "dict",data:= .dict #[] }).DictOf (bB prog w) h1.objs.size []:=Rh h1;have k2:∀b o,h1.get? b=some o->(h1.push { cls:= .type "dict",data:= .dict #[] }).get? b=some o:=fun b o e=>aT _ e;rw[zs]at dn ⊢;generalize h1.push { cls:= .type "dict",data:= .dict #[] }=h2 at dn k2 ⊢;refine⟨dn.typeIs,F.args_dict_init_2 _ _,?_⟩;unfold Builtin.«dict.__init__»;refine ae ?_;unfold Builtin.Dict.selfAndRest;refine ae (Rr dn.typeIs ?_);refine(aj ?_:wpAny _ _ (pure (s.heap.objs.size+5,[Value.ref (s.heap.objs.size+4)])) _ _ _);show wpAny _ _ (Builtin.Dict.updateFrom "dict.__init__" (s.heap.objs.size+5) (.ref (s.heap.objs.size+4)) [] .none) _ _ _;unfold Builtin.Dict.updateFrom;have z2:=k2 _ _ z1;refine ae (oP (T:= "zip") ⟨_,z2,rfl⟩ ?_);rw[aB (by decide)]
 refine ae (Vy z2 hh fun h3 tk3 k3=>?_);rw[aB (by decide)]
 refine ae (lU (ae (RQ (k3 _ _ z2) ?_)));refine aj ⟨kc mh _,?_⟩;have up:∀b o,h1.get? b=some o->h3.get? b=some o:=fun b o e=>k3 b o (k2 b o e);refine Uh (A:=A.in1) (es:=es) (ep:=ep) (ys:=ys) (g:=s.heap) hh D N ps bx nd hz hsz gK cy dk (up _ _ z1) (up _ _ pI) (up _ _ pO) (t1.at fun o e=>up _ o e) (t2.at fun o e=>up _ o e) (dn.at fun o e=>k3 _ o e) (fun b o _ _ _ _ _ e=>up b o (k1 b o e)) fun h' tk dd kp=>?_;refine⟨rfl,q h' tk dd fun b o e=>?_⟩;have blt:(b:Nat) < s.heap.objs.size:=aR e;exact kp b o (nn (.inl (vD 4 blt))) (nn (.inl (vD 3 blt))) (nn (.inl blt)) (nn (.inl (vD 1 blt))) (nn (.inl (vD 5 blt))) e
end
end HT
namespace L2
open PySem PySem.W PyProof.Rows HT
section
variable{X:Cx}
theorem pairs_at {P:Program}{w:World}:∀ {es:List DictEntry}{us:List (Key×Value)},Pairs (bB P w) es us -> ∀ {i:Nat}{k:Key},(us.map (·.1))[i]? = some k -> ∃e,es[i]? = some e/\(bB P w).is k e.key=true
 |_,_,.nil,i,k,h=>by simp at h
 |_,_,.cons r _ t,0,k,h=>by
  rw[cA,List.getElem?_cons_zero]at h;cases h
  exact⟨_,rfl,r⟩
 |_,_,.cons _ _ t,i+1,k,h=>pairs_at t (by simpa using h)
theorem Ls {κ:Type}:∀ {kvs:List (κ×V)}{us:List (κ×Value)},KV kvs us->us.map (·.1)=kvs.map (·.1)
 |_,_,.nil=>rfl
 |_,_,.cons r t=>by rw[cA,cA,r.1,Ls t]
def U4 (t:TA):TE:=fun σ H Q=>t σ H fun vs H1=>∃l1 l2 kvs ks ws,vs = [.ref l1,.ref l2]/\H1 l1=some (.dK kvs)/\kvs.map (·.1)=ks.map Sum.inr/\ks ≠ []/\H1 l2=some (.lst ws)/\ks.Nodup/\ks.length=ws.length /\ ∀d,H1 d=none->Q (.ref d) (upd H1 d (.dK (tP ks ws)))
theorem Tr {a b:Expr}{t:TA}{p p2 pos uc:Pos} (hc:X.calm=true) (hgd:Gl X "dict") (hgz:Gl X "zip") (hmd:X.mg "dict" = none) (hmz:X.mg "zip" = none) (ha:PA X [a,b] t)
  (h1:starEach [.Call (.Name "zip" p2) [a,b] [] uc] X.env = [(false,eval (.Call (.Name "zip" p2) [a,b] [] uc) X.env)]:=by rfl) (he:starEach [a,b] X.env=(false,eval a X.env)::starEach [b] X.env:=by rfl) (cS:(backTo uc (starEach [b] X.env)).any (·.1)=false:=by rfl) :
  PE X (.Call (.Name "dict" p) [.Call (.Name "zip" p2) [a,b] [] uc] [] pos) (U4 t):=by
 intro pins s σ H Q I h;refine oJ (oZ I hgd hmd (show bootBuiltins "dict" = some (.type "dict") by decide +kernel) ?_)
 refine yM ?_ h1 rfl;rw[h1];refine Calls.spliced_cons (?_:wpAny _ _ (eval (.Call (.Name "zip" p2) [a,b] [] uc) X.env) _ _ _);refine oJ (oZ I hgz hmz (show bootBuiltins "zip" = some (.type "zip") by decide +kernel) ?_)
 refine yM (aA (ha uc pins s σ H _ I h) fun us s1 ⟨vs,H1,I1,r1,l1,l2,kvs,ks,ws,ev,cy,Oz,pX,dk,nd,hlen,q⟩=>?_) he cS;subst ev;obtain⟨u1,u2,rfl,yg,yh⟩:=r1.two;cases yg
 cases yh
 obtain⟨FC,rT,us,kvu,o,es,ep,ho,hex,Ae,_,AZ,_⟩:=zX I1.ar cy;have raw:fw s1.heap l1 es ep:=⟨o,ho,hex,Ae⟩;have lk:kvs.length=ks.length:=by have:=eO List.length Oz;simpa using this
 have OA:us.map (·.1)=ks.map Sum.inr:=(Ls kvu).trans Oz;have les:es.size=ks.length:=by
  have h1:=AZ.length;have h2:us.length=ks.length:=by have:=eO List.length OA;simpa using this
  rw[<-h2,<-h1];simp
 obtain⟨yk,yf,pl2,E8⟩:=I1.list (ak.of dk);have e2:=yf.length;have uV:((ks.map (Sum.inr (α:=Int))).zip yk).length=ks.length:=by rw[RL,ax];omega
 have Fv:((ks.map (Sum.inr (α:=Int))).zip yk).map (·.1)=ks.map Sum.inr:=by
  rw[RK];rw[ax];omega
 have inj:(ks.map (Sum.inr (α:=Int))).Nodup:=by
  rw[Iq,sq];exact(Iq.mp nd).imp fun h z=>h (sd z)
 have pne:(ks.map (Sum.inr (α:=Int))).zip yk ≠ []:=fun z=>pX (List.length_eq_zero_iff.mp (by rw[<-uV,z];rfl))
 refine aA (So (A:=X.A) (I1.ok.hd hc) ((ks.map (Sum.inr (α:=Int))).zip yk) pne (by rw[Fv];exact inj) (by rw[uV,<-lk];exact FC) (by rw[uV,les]) (fun i p hp=>?_) rT raw pl2.isList fun h' tk dd kp=>?_) fun v s2 z=>Calls.spliced_nil z
 ·obtain⟨h1,h2⟩:=RM.mp hp
  obtain⟨e,he,hk⟩:=pairs_at AZ (i:=i) (k:=p.1) (by rw[OA];exact h1)
  exact⟨e,by simpa using he,by simpa using h2,hk⟩
 ·have big:=I1.big
  refine⟨.ref (s1.heap.objs.size+5),_,I1.laid (a:=s1.heap.objs.size+5) (o:= .dK (tP ks ws)) (t':=tk) kp (vC _ _) (Du ?_ (nB.mpr (aQ (bj (vD 5 big)))) ?_ dd),rfl,q _ (I1.ar.fresh (vC _ _))⟩
  ·unfold tP;rw[ax,RL];omega
  ·exact LS ks ws yk yf
end
end L2
namespace L2
open PySem PySem.W
abbrev pr (x:Str) (s:Stmt):Str×Stmt:=(x,s)
def A0 (K:Frag):List (Str×Stmt)->Prop
 |[]=>True
 |p::r=>(∃f fd,aX K p.1 p.1 p.2 f fd/\nsIn K mainGlobals p.1=some (some (.ref f)))/\A0 K r
def Eb (K:Frag):List Str->Prop
 |[]=>True
 |x::r=>nsIn K mainGlobals x=some none/\Eb K r
def Ec (K:Frag):List Str->List Addr->Prop
 |x::r,a::s=>nsIn K mainGlobals x=some (some (.ref a))/\Ec K r s
 |_,_=>True
section
variable{K:Frag}{mg:Str->Option Value}{h:Heap}
theorem YT {p:Str×Stmt}{r:List (Str×Stmt)}{f:Addr}{oc:Value}{od an:Option Addr}{kB:Array (Option Value)}{kV doc pm cdv ct:Value} (a:nsIn K mainGlobals p.1=some (some (.ref f)))
  (l:K.lookup f=some ⟨oc,od,.func (fnOf p.1 p.1 (qI p.2) (cu p.2) (aJ p.2) .none kV doc pm an cdv ct),kB⟩) (c:codeIn K cdv p.1=true) (k:keepIn K (.ref f)=true) (g:A0 K r):A0 K (p::r):=⟨⟨f,_,LP l c k,a⟩,g⟩
theorem cB {p:Str×Stmt} (X:K.In h) (G:h.Ns mainGlobals mg) (d:∃f fd,aX K p.1 p.1 p.2 f fd/\nsIn K mainGlobals p.1=some (some (.ref f))) (ps:List Str)
  (b:∀ (kV doc pm:Value) (an:Option Addr) (cdv ct:Value) (us:List Value),us.length=ps.length->bindArgs (fnOf p.1 p.1 (qI p.2) (cu p.2) (aJ p.2) .none kV doc pm an cdv ct) ⟨us,[]⟩=pure (ps.zip us)) :
  ∃f fd,aX K p.1 p.1 p.2 f fd/\keepIn K (.ref f)=true/\Binds K fd ps []/\mg p.1=some (.ref f):=by
 obtain⟨f,fd,F,a⟩:=d;exact⟨f,fd,F,F.kp,F.binds b,mg_of X G a⟩
theorem Lu (X:K.In h) (G:h.Ns mainGlobals mg):∀ {xs:List Str},Eb K xs -> ∀x∈xs,mg x=none
 |y::r,z,x,m=>by
  rcases a9.mp m with rfl|q
  ·exact mg_none_of X G z.1
  ·exact Lu X G z.2 x q
theorem De (X:K.In h) (G:h.Ns mainGlobals mg):∀ {xs:List Str}{as:List Addr} (i:Nat) {x:Str}{a:Addr},Ec K xs as->xs[i]? = some x->as[i]? = some a->mg x=some (.ref a)
 |y::r,b::s,0,x,a,z,e,e'=>by cases e;cases e';exact mg_of X G z.1
 |y::r,b::s,i+1,x,a,z,e,e'=>De X G (xs:=r) (as:=s) i z.2 e e'
end
end L2
namespace L2
open PySem
def b9 (k:Nat):List (List Str)->Str->Option (Nat×Str)
 |[],_=>none
 |[]::rest,n=>b9 (k+1) rest n
 |(x::r)::rest,n=>if n∈x::r/\x≠n then some (k,x) else b9 (k+1) rest n
theorem IQ {k:Nat}{r:List Str}{rest:List (List Str)}{n:Str} (h : ¬ (n∈r/\r.head? ≠ some n)):b9 k (r::rest) n=b9 (k+1) rest n:=by
 cases r with
 |nil=>rfl
 |cons x r=>exact au fun z=>h ⟨z.1,by simpa using z.2⟩
theorem SU {k:Nat}{x:Str}{r:List Str}{rest:List (List Str)}{n:Str} (h:n∈x::r/\x≠n):b9 k ((x::r)::rest) n=some (k,x):=by
 exact aB h
def hV (all:List (List Str)):List (List Str)->Option Str
 |[]=>none
 |[]::rest=>hV all rest
 |(x::_)::rest=>if (b9 0 all x).isNone then some x else hV all rest
def dX (rest:List (List Str)):Option Str:=hV rest rest
def without (n:Str) (rest:List (List Str)):List (List Str):=rest.map fun r=>r.filter fun y=>!decide (y=n)
def total (rest:List (List Str)):Nat:=(rest.map List.length).sum
def aW:Nat->List (List Str)->Option (List Str)
 |0,_=>some []
 |k+1,rest=>if (rest.any fun r=>!r.isEmpty)=true then (match dX rest with|none=>none|some n=>(aW k (without n rest)).map (n :: ·)) else some []
theorem y9 {all:List (List Str)}{n:Str}:∀ {rest:List (List Str)},hV all rest=some n -> ∃r∈rest,r.head? = some n
 |[],h=>by cases h
 |[]::rest,h=>let ⟨r,hr,e⟩:=y9 (rest:=rest) h;⟨r,bJ _ hr,e⟩
 |(x::t)::rest,h=>by
  have h:(if (b9 0 all x).isNone then some x else hV all rest)=some n:=h;split at h
  ·cases h;exact⟨n::t,aZ,rfl⟩
  ·obtain⟨r,hr,e⟩:=y9 (rest:=rest) h
   exact⟨r,bJ _ hr,e⟩
theorem IK (n:Str):∀rest:List (List Str),total (without n rest)<=total rest
 |[]=>aO _
 |r::rest=>by
  have h1:=IK n rest;have h2:=jk (fun y=>!decide (y=n)) r;simp only[total,without,cA,Iz]at *;omega
theorem qy {n:Str}:∀ {rest:List (List Str)},(∃r∈rest,n∈r)->total (without n rest) < total rest
 |[],⟨_,h,_⟩=>by simp at h
 |r::rest,⟨q,hq,hn⟩=>by
  have h1:=IK n rest;have h2:=jk (fun y=>!decide (y=n)) r;rcases a9.mp hq with rfl|hq
  ·have h3:(q.filter fun y=>!decide (y=n)).length < q.length:=by
    exact List.length_filter_lt_length_iff_exists.mpr ⟨n,hn,by simp⟩
   simp only[total,without,cA,Iz]at *;omega
  ·have h3:=qy ⟨q,hq,hn⟩
   simp only[total,without,cA,Iz]at *;omega
theorem le_total {r:List Str}:∀ {rest:List (List Str)},r∈rest->r.length<=total rest
 |[],h=>by simp at h
 |q::rest,h=>by
  have e:total (q::rest)=q.length+total rest:=by simp[total]
  rcases a9.mp h with rfl|h
  ·omega
  ·have:=le_total h
   omega
theorem Ct {rest:List (List Str)} (h:(rest.any fun r=>!r.isEmpty)=true):0 < total rest:=by
 obtain⟨r,hr,e⟩:=sg.mp h;have h1:0 < r.length:=by cases r with
  |nil=>simp at e
  |cons _ _=>simp
 have h2:r.length<=total rest:=le_total hr;omega
def dz (H:Hp) (vs:List V) (rows:List (List Str)):Prop:=Paired (fun y r=>∃a,y=V.ref a/\H a=some (.tup (r.map V.str))) vs rows
theorem dz.same {H H':Hp}{vs:List V}{rows:List (List Str)} (h:dz H vs rows) (s:ao H H'):dz H' vs rows:=Paired.imp' (fun _ _ ⟨a,e,q⟩=>⟨a,e,s _ _ q⟩) h
theorem dz.length {H:Hp}{vs:List V}{rows:List (List Str)} (h:dz H vs rows):vs.length=rows.length:=jF h
theorem dz.get {H:Hp}:∀ {vs:List V}{rows:List (List Str)}{i:Nat}{v:V},dz H vs rows->vs[i]? = some v -> ∃a r,v=V.ref a/\rows[i]? = some r/\H a=some (.tup (r.map V.str))
 |_,_,i,v,.nil,e=>by simp at e
 |_,_,0,v,.cons p _,e=>by
  obtain⟨a,rfl,q⟩:=p;simp at e;subst e;exact⟨a,_,rfl,rfl,q⟩
 |_,_,i+1,v,.cons _ t,e=>by
  obtain⟨a,r,e1,e2,q⟩:=dz.get (i:=i) t (by simpa using e)
  exact⟨a,r,e1,by simpa using e2,q⟩
theorem dz.append {H:Hp}{vs:List V}{rows:List (List Str)}{a:Addr}{r:List Str}:dz H vs rows->H a=some (.tup (r.map V.str))->dz H (vs ++ [.ref a]) (rows ++ [r])
 |.nil,q=>.cons ⟨a,rfl,q⟩ .nil
 |.cons p t,q=>.cons p (dz.append t q)
end L2
namespace j6
open PySem L2 PySem.W
def top (i:Nat):Stmt:=PySem.Challenge.pw_parentlines_k25_whole_kinds_made_in_any.main.body.getD i (.Pass ⟨0,0,0,0⟩)
abbrev pC:Stmt:=inClass (top 14) 0
abbrev we:Stmt:=top 19
abbrev Df:Stmt:=top 20
abbrev Dg:Stmt:=top 21
abbrev wg:Stmt:=top 23
abbrev zP:Stmt:=top 24
abbrev tR:Stmt:=top 25
abbrev tE:Stmt:=top 26
abbrev wA:Stmt:=top 27
abbrev nQ:Stmt:=top 30
abbrev Dh:Stmt:=top 31
abbrev Di:Stmt:=top 32
abbrev wX:Stmt:=top 33
abbrev Dj:Stmt:=top 34
abbrev tF:Stmt:=top 35
abbrev vR:Stmt:=top 36
abbrev Dk:Stmt:=top 37
abbrev DM:Stmt:=top 39
abbrev Dl:Stmt:=top 40
abbrev DN:Stmt:=top 41
abbrev vW:Stmt:=top 42
abbrev Ed:Stmt:=top 44
abbrev wB:Stmt:=top 45
abbrev nR:Stmt:=top 46
abbrev mn:Stmt:=top 47
abbrev wC:Stmt:=top 48
abbrev Cu:Stmt:=top 49
abbrev vX:Stmt:=top 50
abbrev Dx:Stmt:=top 51
abbrev nT:Stmt:=top 52
abbrev nN:Stmt:=top 53
abbrev Dy:Stmt:=top 54
abbrev wY:Stmt:=top 55
abbrev Dm:Stmt:=top 56
abbrev qO:Stmt:=top 57
abbrev wD:Stmt:=top 58
abbrev qJ:Stmt:=top 59
abbrev Ee:Stmt:=top 60
structure dJ (mg:Str->Option Value):Prop where
 len:mg "len" = none
 max:mg "max" = none
 min:mg "min" = none
 abs:mg "abs" = none
 range:mg "range" = none
 any:mg "any" = none
 all:mg "all" = none
 list:mg "list" = none
 tuple:mg "tuple" = none
 OB:mg "enumerate" = none
theorem j5 {y:Str}{r:List Str}:cI ((y::r).map V.str) 0=some (V.str y):=(show cI ((y::r).map V.str) ((0:Nat):Int)=some (V.str y) from eT rfl)
theorem ay {H:Hp}{q:Addr}{o:HO} (hq:H q=none):ao H (upd H q o):=fun b u e=>by rw[ah (aq e hq)];exact e
theorem KO {K:Frag}{a:Addr}{xs:List V}{g:TG}{tb:TS}{D:Ends}{σ:St}{H:Hp} (Pv:Nat->St->Hp->Prop) (h0:Pv 0 σ H) (hl:∀i σ H,i<=xs.length->Pv i σ H->ak K H a xs)
  (hs:∀i x σ H t,xs[i]? = some x->Pv i σ H->H t=none->g (.ref t) σ (upd H t (.tup [.int i,x])) fun ir H2=>tb { D with nx:=Pv (i+1),ct:=Pv (i+1),bk:=D.nx } ir H2) (hd:∀σ H,Pv xs.length σ H->D.nx σ H) :
  ∃W:Nat->Nat->St->Hp->Prop,(∃m,W 0 m σ H) /\ ∀i m σ H,W i m σ H ->
   ((xR K a).stop i H/\D.nx σ H)\/((xR K a).go i H /\ ∃N:St->Hp->Prop,(∀aD H',N aD H' -> ∃m',m' < m/\W (i+1) m' aD H') /\ ∀x H',(xR K a).pK i H x H'->g x σ H' fun ir H2=>tb { D with nx:=N,ct:=N,bk:=D.nx } ir H2):=by
 refine⟨fun i m σ H=>m=xs.length - i/\i<=xs.length/\Pv i σ H,⟨xs.length,by simp,bG _,h0⟩,?_⟩
 rintro i m σ H ⟨rfl,hi,p⟩;have q:=hl i σ H hi p
 by_cases aP:i < xs.length
 ·refine .inr ⟨⟨xs,xs[i],q,by simp[aP]⟩,Pv (i+1),fun aD H' p'=>⟨xs.length - (i+1),by omega,rfl,aP,p'⟩,fun x H' y=>?_⟩
  obtain⟨t,v,ht,rfl,hv,rfl⟩:=y;exact hs i v σ _ t (hv xs q) p ht
 ·have e:i=xs.length:=by omega
  subst e;exact .inl ⟨⟨xs,q,aO _⟩,hd σ H p⟩
section
variable{P:Program}{w:World}{K:Frag}{mg:Str->Option Value}{base:Heap}{f:Addr}{fd:FuncData}
@[irreducible] def qP:Sp:=fun vs H Q _=>∃ (l:Addr) (ws:List V) (rows:List (List Str)) (n:Str),vs = [.ref l,.str n]/\H l=some (.lst ws)/\dz H ws rows /\
 (b9 0 rows n=none -> ∀H',ao H H'->Q .aF H')/\(∀i x,b9 0 rows n=some (i,x) -> ∀p H',H p=none->ao H H'->H' p=some (.tup [.int i,.str x,.str n])->Q (.ref p) H')
theorem Dz:b8 ["rest","name","at","row"] ["rest","name"] (aJ tR):=⟨rfl,rfl,rfl,by decide +kernel,rfl,by decide +kernel,by decide +kernel⟩
theorem Lv (F:aX K "wish_against" "wish_against" tR f fd) (B:dJ mg):aH P w K mg base aK 1 f fd ["rest","name"] qP:=by
 refine F.ok Dz (fun vs H Q E h=>?_) (fun cdv A outer s H vs Q E hr h=>?_)
 ·unfold qP at h;obtain⟨l,ws,rows,n,rfl,_⟩:=h;rfl
 ·unfold qP at h
  obtain⟨l,ws,rows,n,rfl,hl,hR,qn,qs⟩:=h;refine⟨_,aC (jO ke rfl (Lf rfl B.OB (af (pv 0) ai)) (pj rfl (eW (aU (i:=2) Dz.nd rfl (Or.inl rfl)) (eW (aU (i:=3) Dz.nd rfl (Or.inl rfl)) lj)))
    (aM (dj (PW.pt (pw_and (d5 Ck (pv 1) (pv 3) rfl) (pw_and1 (d5 wN (cz mz (pv 3) aN (fun _ _=>rfl)) (pv 1) (cZ _)))))
     (aM (bg (kj (af (pv 2) (af (cz mz (pv 3) aN (fun _ _=>rfl)) (af (pv 1) ai)))))) dh)))
   (aM (bg jr)),?_⟩
  refine⟨_,rfl,l,rfl,⟨_,ak.of hl⟩,KO (xs:=ws) (fun i σ H1=>∃v2 v3:Option V,σ = [some (.ref l),some (.str n),v2,v3]/\ao H H1/\b9 i (rows.drop i) n=b9 0 rows n) ⟨none,none,rfl,ao.refl _,by simp⟩ (fun i σ H1 _ ⟨_,_,_,z,_⟩=>ak.of (z _ _ hl)) ?_ ?_⟩
  ·rintro i x σ H1 t hx ⟨v2,v3,rfl,S1,hw⟩ ht
   obtain⟨a,r,rfl,cW,gf⟩:=hR.get hx;have S2:ao H (upd H1 t (.tup [.int i,.ref a])):=S1.trans (ay ht);have oz:=S2 _ _ gf;have FE:rows.drop i=r::rows.drop (i+1):=by
    have hi:=(bU.mp cW);obtain⟨yd,rfl⟩:=hi;exact yS yd
   rw[FE]at hw;refine⟨t,_,rfl,aG.of ag,rfl,_,_,rfl,_,_,rfl,rfl,?_⟩;refine⟨_,rfl,_,rfl,a,_,rfl,.inr (aG.of oz),rfl,mf _,_,rfl,?_⟩;rw[au cP,nM];refine iH (fun c9=>?_) (fun c9=>?_)
   ·have M1:n∈r:=by simpa using c9
    cases r with
    |nil=>simp at M1
    |cons y r =>
     refine⟨_,rfl,a,_,0,.str y,rfl,rfl,aG.of oz,j5,_,rfl,rfl,_,rfl,?_⟩;refine iH (fun bx=>?_) (fun bx=>?_)
     ·have mZ:y≠n:=fun z=>by subst z;simp at bx
      refine⟨_,rfl,_,rfl,a,_,0,.str y,rfl,rfl,aG.of oz,j5,_,rfl,by show 3<=sizeLine;rw[aE];decide,fun p hp=>?_⟩
      rw[SU ⟨M1,mZ⟩]at hw;exact qs i y hw.symm p _ (S2.free hp) (S2.trans (ay hp)) ag
     ·have hy:y=n:=by
       by_cases z:y=n
       ·exact z
       ·exact absurd (by simp[z]) bx
      refine⟨_,_,rfl,S2,?_⟩;rw[<-hw,IQ fun z=>z.2 (by rw[hy];rfl)]
   ·refine⟨_,_,rfl,S2,?_⟩
    rw[<-hw,IQ fun z=>c9 (by simpa using z.1)]
  ·rintro σ H1 ⟨v2,v3,rfl,S1,hw⟩
   rw[hR.length,IA]at hw;exact qn hw.symm H1 S1
theorem Lw {l:Addr}{ws:List V}{rows:List (List Str)}{n:Str}{H:Hp}{Q:VK}{E:XK} (hl:H l=some (.lst ws)) (hR:dz H ws rows) (qn:b9 0 rows n=none -> ∀H',ao H H'->Q .aF H')
  (qs:∀i x,b9 0 rows n=some (i,x) -> ∀p H',H p=none->ao H H'->H' p=some (.tup [.int i,.str x,.str n])->Q (.ref p) H'):qP [.ref l,.str n] H Q E:=by
 unfold qP;exact⟨l,ws,rows,n,rfl,hl,hR,qn,qs⟩
def Ef:Option Str->V
 |none=>.aF
 |some n=>.str n
@[irreducible] def sU:Sp:=fun vs H Q _=>∃ (l:Addr) (ws:List V) (rows:List (List Str)),vs = [.ref l]/\H l=some (.lst ws)/\dz H ws rows /\ ∀H',ao H H'->Q (Ef (dX rows)) H'
theorem Lx:b8 ["rest","row"] ["rest"] (aJ zP):=⟨rfl,rfl,rfl,by decide +kernel,rfl,by decide +kernel,by decide +kernel⟩
theorem VU {fW:Addr}{ng:FuncData} (F:aX K "least_free" "least_free" zP f fd) (B:dJ mg) (FW:aX K "wish_against" "wish_against" tR fW ng) (bW:Binds K ng ["rest","name"] []) (mW:mg "wish_against" = some (.ref fW)) :
  aH P w K mg base aK 2 f fd ["rest"] sU:=by
 have GW:aH P w K mg base aK 1 fW ng ["rest","name"] qP:=Lv FW B;refine F.ok Lx (fun vs H Q E h=>?_) (fun cdv A outer s H vs Q E hr h=>?_)
 ·unfold sU at h;obtain⟨l,ws,rows,rfl,_⟩:=h;rfl
 ·unfold sU at h
  obtain⟨l,ws,rows,rfl,hl,hR,q⟩:=h;have cO:aV 1 _:=hr;refine⟨_,aC (jO ke rfl (gC (pv 0)) (aU (i:=1) Lx.nd rfl (Or.inl rfl))
    (aM (dj (PW.pt (pw_and (sO (pv 1) (fun _=>rfl)) (pw_and1 (d5 zK (bf GW cO rfl mW FW.kp bW .nil bh (af (pv 0) (af (cz mz (pv 1) aN (fun _ _=>rfl)) ai))) jr (cZ _)))))
     (aM (bg (cz mz (pv 1) aN (fun _ _=>rfl)))) dh)))
   (aM (bg jr)),?_⟩
  refine⟨_,rfl,l,rfl,⟨_,ak.of hl⟩,CD (xs:=ws) (fun i σ H1=>∃v1:Option V,σ = [some (.ref l),v1]/\ao H H1/\hV rows (rows.drop i)=dX rows) ⟨none,rfl,ao.refl _,by simp[dX]⟩ (fun i σ H1 _ ⟨_,_,z,_⟩=>ak.of (z _ _ hl)) ?_ ?_⟩
  ·rintro i x σ H1 hx ⟨v1,rfl,S1,hw⟩
   obtain⟨a,r,rfl,cW,gf⟩:=hR.get hx;have gY:=S1 _ _ gf;have FE:rows.drop i=r::rows.drop (i+1):=by
    obtain⟨yd,rfl⟩:=bU.mp cW;exact yS yd
   rw[FE]at hw;refine⟨_,rfl,!(r.map V.str).isEmpty,.inr (.inl ⟨_,aG.of gY,rfl⟩),?_⟩;cases r with
   |nil=>exact⟨_,rfl,S1,hw⟩
   |cons y r =>
    have hw:(if (b9 0 rows y).isNone then some y else hV rows (rows.drop (i+1)))=dX rows:=hw;refine⟨_,rfl,_,rfl,a,_,0,.str y,rfl,rfl,aG.of gY,j5,?_⟩;refine Lw (S1 _ _ hl) (hR.same S1) (fun en H2 S2=>?_) (fun j z es p H2 hp S2 h2=>?_)
    ·refine⟨rfl,_,rfl,?_⟩
     refine⟨_,rfl,a,_,0,.str y,rfl,rfl,aG.of (S2 _ _ gY),j5,?_⟩;rw[en]at hw;have e:dX rows=some y:=hw.symm;have:=q H2 (S1.trans S2);rw[e]at this;exact this
    ·refine⟨rfl,_,rfl,?_⟩
     rw[es]at hw;exact⟨_,rfl,S1.trans S2,hw⟩
  ·rintro σ H1 ⟨v1,rfl,S1,hw⟩
   rw[hR.length,IA]at hw;have e:dX rows=none:=hw.symm;have:=q H1 S1;rw[e]at this;exact this
theorem VV {l:Addr}{ws:List V}{rows:List (List Str)}{H:Hp}{Q:VK}{E:XK} (hl:H l=some (.lst ws)) (hR:dz H ws rows) (q:∀H',ao H H'->Q (Ef (dX rows)) H'):sU [.ref l] H Q E:=by
 unfold sU;exact⟨l,ws,rows,rfl,hl,hR,q⟩
end
theorem J4 {x:Str} (h:Nm x):(x.cps.toList.all fun c=>decide (c < 16 ^ 8))=true:=by
 rw[oQ];intro c hc;have:=(h.az c hc).2;exact gm (by omega)
def pD (H:Hp) (v:V):Prop:= ∃ (a:Addr) (i:Nat) (x n:Str),v = .ref a/\H a=some (.tup [.int i,.str x,.str n])/\i < 10/\Nm x/\Nm n
theorem pD.same {H H':Hp}{v:V} (h:pD H v) (s:ao H H'):pD H' v:=let ⟨a,i,x,n,e,q,r⟩:=h;⟨a,i,x,n,e,s _ _ q,r⟩
theorem U5:∀i:Nat,i < 10->PyData.leavesShort 13 (.int i)=true/\PyData.showable (.int i)=true:=by decide +kernel
theorem Je {H:Hp}:∀ {vs:List V},(∀v∈vs,pD H v) -> ∃ds,gD H vs ds/\PyData.showableAll ds=true/\PyData.hasDictAll ds=false/\PyData.depthAll ds<=1/\PyData.leavesShortAll 13 ds=true/\PyData.bulkAll ds<=25 * vs.length
 |[],_=>⟨[],.nil,rfl,rfl,bG _,rfl,bG _⟩
 |v::vs,h=>by
  obtain⟨ds,h1,h2,h3,h4,h5,h6⟩:=Je (vs:=vs) fun u hu=>h u (bJ _ hu);obtain⟨a,i,x,n,rfl,ha,hi,hx,hn⟩:=h v aZ;obtain⟨s1,s2⟩:=U5 i hi;have s1':PyData.leavesShort 13 (.int (i:Int))=true:=s1;have s2':PyData.showable (.int (i:Int))=true:=s2;have z1:x.cps.size<=8:=hx.hi;have z2:n.cps.size<=8:=hn.hi;refine⟨.tuple [.int i,.str x,.str n]::ds,.cons (.tup ha (.cons (.int _) (.cons (.str _) (.cons (.str _) .nil)))) h1,?_,?_,?_,?_,?_⟩
  ·simp only[PyData.showableAll,PyData.showable,h2,IB]
   simpa [PyData.showable] using s2'
  ·simp only[PyData.hasDictAll,PyData.hasDict,h3,Q1]
  ·simp only[PyData.depthAll,PyData.depth];omega
  ·simp only[PyData.leavesShortAll,PyData.leavesShort,h5,J4 hx,J4 hn,IB]
   simpa [PyData.leavesShort] using s1'
  ·simp only[PyData.bulkAll,PyData.bulk,d4];omega
theorem Ju {H:Hp}{p:Addr}{vs:List V} (hp:H p=some (.tup vs)) (h:∀v∈vs,pD H v) (bw:vs.length<=100):mJ H (.ref p):=by
 obtain⟨ds,h1,h2,h3,h4,h5,h6⟩:=Je h;refine .inr (.inr ⟨p,.tuple ds,rfl,.tup hp h1,h2,h3,?_,?_⟩)
 ·simp only[PyData.depth];omega
 ·have:=PyData.shown_le_bulk 13 (by decide) (.tuple ds) h5
  simp only[PyData.bulk]at this;omega
def heads (rows:List (List Str)):List Str:=rows.filterMap List.head?
theorem sL (rows:List (List Str)):(heads rows).length<=rows.length:=Q8 _ _
theorem nL {rows:List (List Str)}{n:Str}:n∈heads rows ↔ ∃r∈rows,r.head? = some n:=by
 unfold heads;rw[qp]
theorem B7:∀ {rows:List (List Str)}{k:Nat}{n:Str}{i:Nat}{x:Str},b9 k rows n=some (i,x)->k<=i/\i < k+rows.length/\x∈heads rows
 |[],k,n,i,x,h=>by cases h
 |[]::rest,k,n,i,x,h=>by
  obtain⟨h1,h2,h3⟩:=B7 (rows:=rest) (k:=k+1) (n:=n) h;refine⟨by omega,by simp only[d4];omega,?_⟩
  obtain⟨r,hr,e⟩:=nL.mp h3;exact nL.mpr ⟨r,bJ _ hr,e⟩
 |(y::r)::rest,k,n,i,x,h=>by
  have h:(if n∈y::r/\y≠n then some (k,y) else b9 (k+1) rest n)=some (i,x):=h;split at h
  ·cases h
   exact⟨aO _,by simp only[d4];omega,nL.mpr ⟨_::r,aZ,rfl⟩⟩
  ·obtain⟨h1,h2,h3⟩:=B7 (rows:=rest) (k:=k+1) (n:=n) h
   refine⟨by omega,by simp only[d4];omega,?_⟩
   obtain⟨r',hr,e⟩:=nL.mp h3;exact nL.mpr ⟨r',bJ _ hr,e⟩
theorem za {all:List (List Str)}:∀ {rest:List (List Str)},hV all rest=none -> ∀n∈heads rest,b9 0 all n≠none
 |[],_,n,hn=>by simp[heads]at hn
 |[]::rest,h,n,hn=>za (rest:=rest) h n hn
 |(y::r)::rest,h,n,hn=>by
  have h:(if (b9 0 all y).isNone then some y else hV all rest)=none:=h;split at h
  ·cases h
  next hy =>
   have hn:n∈y::heads rest:=hn;rcases a9.mp hn with rfl|hn
   ·intro z;rw[z]at hy;exact hy rfl
   ·exact za h n hn
abbrev Wi:=Nat×Str×Str
def mU (rows:List (List Str)):Nat->Str->List Str->List Wi->List Wi
 |0,_,_,_=>[]
 |k+1,nm,ps,ws=>if nm∈ps then (ws.drop (ps.idxOf nm)).reverse else
  match b9 0 rows nm with
  |some (i,x)=>mU rows k x (ps ++ [nm]) (ws ++ [(i,x,nm)])
  |none=>[]
def pz (rows:List (List Str)):List Wi:=mU rows (rows.length+1) ((heads rows).headD "") [] []
structure ly (At:Wi->Prop) (most:Nat) (W:List Wi):Prop where
 len:2<=W.length
 bw:W.length<=most
 at_:∀w∈W,At w
 turn:(W.map (·.2.1)).drop 1++(W.map (·.2.1)).take 1=W.map (·.2.2)
 nd:(W.map (·.2.1)).Nodup
def wF (rows:List (List Str)) (w:Wi):Prop:= ∃r,rows[w.1]? = some (w.2.1::r)/\w.2.2∈r/\w.2.1≠w.2.2
theorem B8:∀ {rows:List (List Str)}{k:Nat}{n:Str}{i:Nat}{x:Str},b9 k rows n=some (i,x) -> ∃j r,i=k+j/\rows[j]? = some (x::r)/\n∈r/\x≠n
 |[],k,n,i,x,h=>by cases h
 |[]::rest,k,n,i,x,h=>by
  obtain⟨j,r,h1,h2,h3⟩:=B8 (rows:=rest) (k:=k+1) (n:=n) h;exact⟨j+1,r,by omega,by simpa using h2,h3⟩
 |(y::r)::rest,k,n,i,x,h=>by
  have h:(if n∈y::r/\y≠n then some (k,y) else b9 (k+1) rest n)=some (i,x):=h;split at h
  next c =>
   cases h
   refine⟨0,r,rfl,rfl,?_,c.2⟩;rcases a9.mp c.1 with z|z
   ·exact absurd z.symm c.2
   ·exact z
  ·obtain⟨j,r',h1,h2,h3⟩:=B8 (rows:=rest) (k:=k+1) (n:=n) h
   exact⟨j+1,r',by omega,by simpa using h2,h3⟩
theorem DA {ps hs:List Str} (nd:ps.Nodup) (h:∀n∈ps,n∈hs):ps.length<=hs.length:=by
 by_cases z:ps.length<=hs.length
 ·exact z
 ·obtain⟨y,hy,hn⟩:=zO (found:=hs) nd (by omega)
  exact absurd (h y hy) hn
theorem J6 {rows:List (List Str)} (hF:dX rows=none):∀ {k:Nat}{nm:Str}{ps:List Str}{ws:List Wi},nm∈heads rows->(∀n∈ps,n∈heads rows)->ps.Nodup->(∀w∈ws,wF rows w)->ws.map (·.2.2)=ps->ws.map (·.2.1)=(ps ++ [nm]).tail ->
  k+ps.length=rows.length+1->ly (wF rows) rows.length (mU rows k nm ps ws)
 |0,nm,ps,ws,hn,hp,nd,hw,e1,e2,hk=>by
  have:=DA nd hp;have:=sL rows;omega
 |k+1,nm,ps,ws,hn,hp,nd,hw,e1,e2,hk=>by
  unfold mU
  by_cases c:nm∈ps
  ·rw[aB c]
   have hj:ps.idxOf nm < ps.length:=List.idxOf_lt_length_iff.mpr c;obtain⟨j,uU⟩:∃j,ps.idxOf nm=j:=⟨_,rfl⟩;have AR:ps[j]? = some nm:=by rw[<-uU];rw[bH hj];exact eO some (List.getElem_idxOf hj)
   rw[uU]at hj ⊢;have d1:ps.drop j=nm::ps.drop (j+1):=by
    rw[yS hj];rw[bH hj]at AR;rw[gy AR]
   generalize ht:ps.drop (j+1)=t at d1;have f2:(ws.drop j).map (·.2.2)=nm::t:=by rw[IC,e1,d1]
   have f1:(ws.drop j).map (·.2.1)=t ++ [nm]:=by
    rw[IC,e2,<-List.drop_one,List.drop_drop,Nat.add_comm 1 j,List.drop_append_of_le_length (by omega),ht]
   have uP:(nm::t).Nodup:=by rw[<-d1];exact nd.sublist (List.drop_sublist _ _)
   have l1:(ws.drop j).length=t.length+1:=by
    have:=eO List.length f2
    rwa [ax,d4]at this
   have sub:∀w∈ws.drop j,wF rows w:=fun w h=>hw w (BU h);generalize ws.drop j=U at f1 f2 l1 sub;have tne:t ≠ []:=by
    rintro rfl
    match U,f1,f2,sub with
    |[w],f1,f2,sub =>
     obtain⟨r,_,_,ne⟩:=sub w aZ;have g1:w.2.1=nm:=by simpa using f1
     have g2:w.2.2=nm:=by simpa using f2
     exact ne (g1.trans g2.symm)
   have tl:1<=t.length:=aii.mpr tne;refine⟨by rw[Ie];omega,?_,fun w h=>sub w (RS.mp h),?_,?_⟩
   ·have q1:=DA uP (hs:=heads rows) fun n h=>by
     rw[<-d1]at h;exact hp n (BU h)
    have q2:=sL rows;rw[d4]at q1;rw[Ie];omega
   ·rw[RT,RT,f1,f2];simp
   ·rw[RT,f1]
    rw[List.reverse_append];exact eP.mpr ⟨fun z=>(eP.mp uP).1 (RS.mp z),(List.reverse_perm t).nodup_iff.mpr (eP.mp uP).2⟩
  ·rw[au c]
   have nn:b9 0 rows nm≠none:=za hF nm hn;cases e:b9 0 rows nm with
   |none=>exact absurd e nn
   |some w =>
    obtain⟨i,x⟩:=w;obtain⟨j,r,hi,hr,FF,ne⟩:=B8 e;have ij:i=j:=by omega
    subst ij;refine J6 hF (nL.mpr ⟨_,gB hr,rfl⟩) (fun n h=>?_) ?_ (fun w h=>?_) ?_ ?_ ?_
    ·rcases fb.mp h with h|h
     ·exact hp n h
     ·rw[gn.mp h];exact hn
    ·rw[jg]
     exact⟨nd,by simp,fun a ha b hb=>by rw[gn.mp hb];exact fun z=>c (z ▸ ha)⟩
    ·rcases fb.mp h with h|h
     ·exact hw w h
     ·rw[gn.mp h];exact⟨r,hr,FF,ne⟩
    ·rw[bc,e1];rfl
    ·rw[bc,e2]
     cases ps with
     |nil=>rfl
     |cons y ps=>simp
    ·rw[de,iN];omega
theorem WN {rows:List (List Str)} (hF:dX rows=none) (hA:(rows.any fun r=>!r.isEmpty)=true):ly (wF rows) rows.length (pz rows):=by
 unfold pz;have:(heads rows).headD "" ∈ heads rows:=by
  obtain⟨r,hr,e⟩:=sg.mp hA;cases r with
  |nil=>simp at e
  |cons y r =>
   have:y∈heads rows:=nL.mpr ⟨_,hr,rfl⟩;cases q:heads rows with
   |nil=>rw[q]at this;simp at this
   |cons a t=>exact aZ
 exact J6 hF this (by simp) lY (by simp) rfl rfl (by simp)
def mG (rows:List (List Str)) (w:Wi):Prop:= ∃pre post,rows[w.1]? = some (pre++w.2.1::post)/\w.2.2∈post/\w.2.1 ∉ pre/\w.2.2 ∉ pre/\w.2.1≠w.2.2
def Cut (rows rest:List (List Str)):Prop:=rest.length=rows.length /\ ∀ (i:Nat) (r:List Str),rest[i]? = some r -> ∃ (r0:List Str) (p:Str->Bool),rows[i]? = some r0/\r=r0.filter p
theorem Cut.refl (rows:List (List Str)):Cut rows rows:=⟨rfl,fun i r e=>⟨r,fun _=>true,e,(ID.mpr fun _ _=>rfl).symm⟩⟩
theorem Cut.without {rows rest:List (List Str)} (h:Cut rows rest) (n:Str):Cut rows (L2.without n rest):=by
 refine⟨by unfold L2.without;rw[ax];exact h.1,fun i r e=>?_⟩
 unfold L2.without at e;rw[gA]at e;obtain⟨q,hq,rfl⟩:=iD.mp e;obtain⟨r0,p,h0,rfl⟩:=h.2 i q hq;exact⟨r0,_,h0,by rw[List.filter_filter]⟩
theorem Cut.ko {rows rest:List (List Str)} (h:Cut rows rest) {w:Wi} (q:wF rest w):mG rows w:=by
 obtain⟨r,hr,hn,ne⟩:=q;obtain⟨r0,p,h0,e⟩:=h.2 _ _ hr;obtain⟨l1,l2,rfl,a1,a2,a3⟩:=List.filter_eq_cons_iff.mp e.symm;have Ax:w.2.2∈l2/\p w.2.2=true:=by rw[<-a3]at hn;exact iC.mp hn
 exact⟨l1,l2,h0,Ax.1,fun z=>a1 _ z a2,fun z=>a1 _ z Ax.2,ne⟩
theorem ly.imp {At OC:Wi->Prop}{m:Nat}{W:List Wi} (h:ly At m W) (f:∀w,At w->OC w):ly OC m W:=⟨h.len,h.bw,fun w q=>f w (h.at_ w q),h.turn,h.nd⟩
def qQ:Nat->List (List Str)->List (List Str)
 |0,rest=>rest
 |k+1,rest=>match dX rest with
  |some n=>qQ k (L2.without n rest)
  |none=>rest
theorem Ui {k:Nat}{rest:List (List Str)}{n:Str} (h:dX rest=some n):qQ (k+1) rest=qQ k (L2.without n rest):=by
 show(match dX rest with|some n=>_|none=>_)=_;rw[h]
theorem Uj {k:Nat}{rest:List (List Str)} (h:dX rest=none):qQ k rest=rest:=by
 cases k with
 |zero=>rfl
 |succ k=>show(match dX rest with|some n=>_|none=>_)=_;rw[h]
def qU (rows:List (List Str)):List Wi:=pz (qQ 1000 rows)
theorem WO {rows:List (List Str)}{k:Nat}{nm x:Str}{ps:List Str}{W:List Wi}{j:Nat} (h:nm ∉ ps) (e:b9 0 rows nm=some (j,x)):mU rows (k+1) nm ps W=mU rows k x (ps ++ [nm]) (W ++ [(j,x,nm)]):=by
 rw[mU,au h,e]
theorem VW {rows:List (List Str)}{k:Nat}{nm:Str}{ps:List Str}{W:List Wi} (h:nm∈ps):mU rows (k+1) nm ps W=(W.drop (ps.idxOf nm)).reverse:=by
 rw[mU,aB h]
theorem J8:∀ {ps:List Str}{n:Str}{j:Nat},ps[j]? = some n->(∀m:Nat,m < j->ps[m]? ≠ some n)->ps.idxOf n=j
 |[],n,j,h,_=>by simp at h
 |x::ps,n,0,h,_=>by
  have:x=n:=by simpa using h
  rw[this];exact List.idxOf_cons_self
 |x::ps,n,j+1,h,q=>by
  have ne:x≠n:=fun z=>q 0 (by omega) (by simp[z])
  rw[List.idxOf_cons,show(x==n)=false from nB.mpr ne,cond_false,J8 (j:=j) (by simpa using h) fun m hm=>by simpa using q (m+1) (by omega)]
def eZ (H:Hp):List V->List Wi->Prop:=Paired fun v w=>∃a,v=V.ref a/\H a=some (.tup [.int w.1,.str w.2.1,.str w.2.2])
theorem J9 {H:Hp}{vs:List V}{W:List Wi}{v:V}{w:Wi} (h:eZ H vs W) (q:∃a,v=V.ref a/\H a=some (.tup [.int w.1,.str w.2.1,.str w.2.2])):eZ H (vs ++ [v]) (W ++ [w]):=by
 induction h with
 |nil=>exact .cons q .nil
 |cons p _ ih=>exact .cons p ih
theorem WQ {H:Hp}{vs:List V}{W:List Wi}{j:Nat} (h:eZ H vs W):eZ H (vs.drop j) (W.drop j):=by
 induction h generalizing j with
 |nil=>simp;exact .nil
 |cons p t ih =>
  cases j with
  |zero=>exact .cons p t
  |succ j=>exact ih
theorem XW {H:Hp}{vs:List V}{W:List Wi} (h:eZ H vs W):eZ H vs.reverse W.reverse:=by
 induction h with
 |nil=>exact .nil
 |cons p t ih=>rw[HL,HL];exact J9 ih p
theorem eZ.same {H H':Hp}{vs:List V}{W:List Wi} (h:eZ H vs W) (s:ao H H'):eZ H' vs W:=Paired.imp' (fun v w ⟨a,e,q⟩=>⟨a,e,s _ _ q⟩) h
theorem KP (xs:List V) (k:Nat):d6 xs (some (k:Int)) none=xs.drop k:=by
 unfold d6;rw[HT.CG,HT.C4]
 by_cases h:k<=xs.length
 ·rw[IE h,Ir (by rw[HK];omega)]
 ·rw[RU (by omega),IA,Rc (by omega)];simp
theorem zQ (xs:List V) (k:Nat):d6 xs none (some (k:Int))=xs.take k:=by
 unfold d6;rw[HT.CG,HT.C4]
 by_cases h:k<=xs.length
 ·rw[IE h];simp
 ·rw[RU (by omega)];simp;rw[Ir (by omega)]
theorem Uk {X:Cx}{a:Expr}{ta:TE} (K:Frag) (h:X.K=K) (ha:PE X a ta) (he:∀whole,isTrue a X.env whole=(do let v <- whole;standAt a.pos;holding [v] (truthy v))) :
  PT X a (fun σ H Q=>ta σ H fun x H'=>∃k,DY K x H' k/\Q k H'):=by subst h;exact sO ha he
def Dn (s:Stmt):List Stmt:=match s with|.For _ _ b _ _=>b|_=>[]
def vS (s:Stmt):List Stmt:=match s with|.While _ b _ _=>b|_=>[]
def cb (l:List Stmt) (i:Nat):Stmt:=l.getD i (.Pass ⟨0,0,0,0⟩)
def eK (s:Stmt):Expr:=match s with|.Assign _ v _=>v|_=>.Constant .none 0 ⟨0,0,0,0⟩
def xm (s:Stmt):Expr:=match s with|.Return (some v) _=>v|_=>.Constant .none 0 ⟨0,0,0,0⟩
def eY (e:Expr):Expr:=match e with|.Call _ (a::_) _ _=>a|_=>.Constant .none 0 ⟨0,0,0,0⟩
def M3 (e:Expr):Expr:=match e with|.Subscript a _ _=>a|_=>.Constant .none 0 ⟨0,0,0,0⟩
def DO (e:Expr):Expr:=match e with|.ListComp x _ _ _=>x|_=>.Constant .none 0 ⟨0,0,0,0⟩
def cj (e:Expr):Scope:=match e with|.ListComp _ _ sc _=>sc|_=>{ kind:= .function,names:= [],isGenerator:=false,isCoroutine:=false }
theorem boot_tuple:bootBuiltins "tuple" = some (.type "tuple"):=by decide +kernel
theorem boot_list:bootBuiltins "list" = some (.type "list"):=by decide +kernel
section
variable{P:Program}{w:World}{K:Frag}{mg:Str->Option Value}{base:Heap}{f:Addr}{fd:FuncData}
structure Small (rows:List (List Str)):Prop where
 bw:rows.length<=10
 short:∀r∈rows,r.length<=20
 nm:∀r∈rows,∀n∈r,Nm n
theorem Small.head {rows:List (List Str)} (S:Small rows) {n:Str} (h:n∈heads rows):Nm n:=by
 obtain⟨r,hr,e⟩:=nL.mp h;exact S.nm r hr n (RV e)
@[irreducible] def sV:Sp:=fun vs H Q _=>∃ (l:Addr) (ws:List V) (rows:List (List Str)),vs = [.ref l]/\H l=some (.lst ws)/\dz H ws rows/\Small rows/\dX rows=none/\(rows.any fun r=>!r.isEmpty)=true /\
 ∀p vs H',ao H H'->H p=none->H' p=some (.tup vs)->eZ H' vs (pz rows)->mJ H' (.ref p)->Q (.ref p) H'
abbrev LY:List Str:= ["rest","name","passed","wishes","wish","around"]
theorem qK:b8 LY ["rest"] (aJ tE):=⟨rfl,rfl,rfl,by decide +kernel,rfl,by decide +kernel,by decide +kernel⟩
abbrev aao:Scope:=cj (M3 (eK (cb (cu tE) 0)))
theorem M4:bX LY (aJ tE) ["row"] [none] aao:=⟨rfl,by decide +kernel,by decide +kernel,rfl,cU (by decide +kernel),by decide +kernel⟩
theorem Ul (rows:List (List Str)) (h:(rows.any fun r=>!r.isEmpty)=true):∃x t,heads rows=x::t:=by
 obtain⟨r,hr,e⟩:=sg.mp h;cases r with
 |nil=>simp at e
 |cons y r =>
  have:y∈heads rows:=nL.mpr ⟨_,hr,rfl⟩;cases q:heads rows with
  |nil=>rw[q]at this;simp at this
  |cons a t=>exact⟨a,t,rfl⟩
theorem CS:∀ {ps:List Str}{n:Str},n∈ps -> ∃j:Nat,ps[j]? = some n /\ ∀m:Nat,m < j->ps[m]? ≠ some n
 |[],n,h=>by simp at h
 |x::ps,n,h=>by
  by_cases e:x=n
  ·exact⟨0,by rw[e];rfl,fun m hm=>by omega⟩
  ·have h':n∈ps:=by
    rcases a9.mp h with z|z
    ·exact absurd z.symm e
    ·exact z
   obtain⟨j,h1,h2⟩:=CS h';refine⟨j+1,by simpa using h1,fun m hm=>?_⟩
   cases m with
   |zero=>simpa using e
   |succ m=>simpa using h2 m (by omega)
structure Ly (H:Hp) (rows:List (List Str)) (l pa wa:Addr) (m:Nat) (σ:St) (H1:Hp) (nm:Str) (ps:List Str) (wv:List V) (W:List Wi):Prop where
 st:∃v4:Option V,σ = [some (.ref l),some (.str nm),some (.ref pa),some (.ref wa),v4,none]
 mm:m=rows.length - ps.length
 hn:nm∈heads rows
 hp:∀n∈ps,n∈heads rows
 nd:ps.Nodup
 pa:H1 pa=some (.lst (ps.map V.str))
 wa:H1 wa=some (.lst wv)
 ln:wv.length=ps.length
 OD:∀v∈wv,pD H1 v
 sm:ao H H1
 pw:eZ H1 wv W
 eq:mU rows (rows.length+1 - ps.length) nm ps W=pz rows
theorem DB {ps hs:List Str} (nd:ps.Nodup) (h:∀n∈ps,n∈hs):ps.length<=hs.length:=by
 by_cases z:ps.length<=hs.length
 ·exact z
 ·obtain⟨y,hy,hn⟩:=zO (found:=hs) nd (by omega)
  exact absurd (h y hy) hn
theorem VX {fW:Addr}{ng:FuncData} (F:aX K "ring_within" "ring_within" tE f fd) (B:dJ mg) (FW:aX K "wish_against" "wish_against" tR fW ng) (bW:Binds K ng ["rest","name"] []) (mW:mg "wish_against" = some (.ref fW)) :
  aH P w K mg base aK 2 f fd ["rest"] sV:=by
 have GW:aH P w K mg base aK 1 fW ng ["rest","name"] qP:=Lv FW B;refine F.ok qK (fun vs H Q E h=>?_) (fun cdv A outer s H vs Q E hr h=>?_)
 ·unfold sV at h;obtain⟨l,ws,rows,rfl,_⟩:=h;rfl
 ·unfold sV at h
  obtain⟨l,ws,rows,rfl,hl,hR,hS,hF,hA,q⟩:=h;have cO:aV 1 _:=hr;refine⟨_,aC (br (i:=1) qK.nd rfl (Or.inl rfl) (cz fX (dv rfl M4 (gC (pv 0)) (fun s H fp=>⟨aU (i:=0) M4.nd rfl (Or.inl rfl),lb (Uk K rfl (pv 0) (fun _=>rfl)),cz (sQ K rfl) (pv 0) aN (fun _ _=>rfl)⟩)) aN (fun _ _=>rfl)))
   (aC (br (i:=2) qK.nd rfl (Or.inl rfl) (c8 ai))
   (aC (br (i:=3) qK.nd rfl (Or.inl rfl) (c8 ai))
   (aC (zt ke (d5 zb (pv 1) (pv 2) rfl)
    (aC (iR (iU kf qu qv k9 (pv 2) (af (pv 1) ai)))
    (aC (br (i:=4) qK.nd rfl (Or.inl rfl) (bf GW cO rfl mW FW.kp bW .nil bh (af (pv 0) (af (pv 1) ai))))
    (aC (iR (iU kf qu qv k9 (pv 3) (af (pv 4) ai)))
    (aM (br (i:=1) qK.nd rfl (Or.inl rfl) (cz mz (pv 4) aN (fun _ _=>rfl))))))))
   (aC (br (i:=5) qK.nd rfl (Or.inl rfl) (mi nP (pv 3) (ll (iU kf RW RX CJ (pv 2) (af (pv 1) ai))) mx))
   (aM (bg (cY jl rfl B.tuple boot_tuple (af (XI (pv 5)) ai)))))))),?_⟩
  refine⟨_,rfl,l,rfl,⟨_,ak.of hl⟩,fun a1 gY=>?_⟩;refine gR (xs:=ws) (fun i zs τ H1=>∃t0:Option V,zs=(heads (rows.take i)).map V.str/\τ = [t0]/\H1=upd H a1 (.lst zs)) ⟨none,rfl,rfl,rfl⟩ (fun i zs τ H1 ⟨_,_,_,z⟩=>by rw[z];exact⟨ag,ak.of (by rw[ah (aq hl gY)];exact hl)⟩) ?_ ?_
  ·rintro i x zs τ H1 hx ⟨t0,rfl,rfl,rfl⟩
   obtain⟨a,r,rfl,cW,gf⟩:=hR.get hx;have aP:i < ws.length:=(bU.mp hx).1;have oz:(upd H a1 (.lst ((heads (rows.take i)).map V.str))) a=some (.tup (r.map V.str)):=by rw[ah (aq gf gY)];exact gf
   have tk:rows.take (i+1)=rows.take i ++ [r]:=by rw[df,cW];rfl
   refine⟨_,rfl,!(r.map V.str).isEmpty,.inr (.inl ⟨_,aG.of oz,rfl⟩),?_⟩;cases r with
   |nil=>exact cw_next aP ⟨_,by rw[tk];simp[heads],rfl,rfl⟩
   |cons y r =>
    refine⟨_,rfl,a,_,0,.str y,rfl,rfl,aG.of oz,j5,ag,?_,cw_next aP ⟨_,?_,rfl,by rw[iQ]⟩⟩
    ·have h1:=sL (rows.take i)
     have h2:(rows.take i).length<=rows.length:=by rw[cK];omega
     have h3:=hS.bw;rw[ax,aE];omega
    ·rw[tk];simp[heads]
  ·rintro zs τ H1 ⟨t0,rfl,rfl,rfl⟩
   rw[hR.length,du];obtain⟨x0,ht,pZ⟩:=Ul rows hA;rw[pZ];refine⟨a1,_,0,.str x0,rfl,rfl,ak.of ag,j5,?_⟩;have S0:=ay (o:= .lst ((x0::ht).map V.str)) gY;refine⟨bG _,fun pa kU=>⟨bG _,fun wa uX=>?_⟩⟩;have S1:=S0.trans (ay (o:= .lst []) kU);have S2:=S1.trans (ay (o:= .lst []) uX);have aap:H pa=none:=S0.free kU;have aaq:H wa=none:=S1.free uX;have FG:pa≠wa:=aq ag uX;refine⟨fun m σ H1=>∃nm ps wv W,Ly H rows l pa wa m σ H1 nm ps wv W,⟨_,x0,[],[],[],⟨none,rfl⟩,rfl,by rw[pZ];exact aZ,(fun n hn=>by simp at hn),lY,by rw[ah FG];exact ag,ag,rfl,(fun v hv=>by simp at hv),S2,.nil,by unfold pz;rw[pZ];rfl⟩,?_⟩
   rintro m σ H1 ⟨nm,ps,wv,W,R⟩;obtain⟨v4,rfl⟩:=R.st;have aiL:ps.length<=10:=by
    have h1:=DB R.nd R.hp;have h2:=sL rows;have h3:=hS.bw;omega
   refine⟨_,rfl,_,rfl,pa,_,rfl,.inl (ak.of R.pa),rfl,mf _,_,rfl,?_⟩;rw[aB rfl,nM];refine iH (fun hn=>?_) (fun hn=>?_)
   ·have jA:nm ∉ ps:=by simpa using hn
    have nd1:(nm::ps).Nodup:=eP.mpr ⟨jA,R.nd⟩;have aar:(nm::ps).length<=rows.length:=dU (DB nd1 fun n z=>by
     rcases a9.mp z with rfl|z
     ·exact R.hn
     ·exact R.hp n z) (sL rows)
    refine⟨fun aD H'=>∃m',m' < m /\ ∃nm ps wv W,Ly H rows l pa wa m' aD H' nm ps wv W,fun _ _ z=>z,?_⟩;refine⟨_,rfl,.inl ⟨rfl,_,ak.of R.pa⟩,_,rfl,pa,_,_,rfl,rfl,R.pa,by rw[ax,aE];omega,?_⟩
    have S3:ao H (upd H1 pa (.lst (ps.map V.str ++ [.str nm]))):=fun b o e=>by rw[ah (aq e aap)];exact R.sm b o e
    refine⟨_,rfl,_,rfl,Lw (S3 _ _ hl) (hR.same S3) (fun en=>absurd en (za hF nm R.hn)) (fun j x es p H3 hp S4 h3=>?_)⟩;obtain⟨_,hj,hx⟩:=B7 es;have Eg:H3 wa=some (.lst wv):=S4 _ _ (by rw[ah (aQ FG)];exact R.wa)
    have aas:H3 pa=some (.lst (ps.map V.str ++ [.str nm])):=S4 _ _ ag;refine⟨_,rfl,.inl ⟨rfl,_,ak.of Eg⟩,_,rfl,wa,_,_,rfl,rfl,Eg,by rw[R.ln,aE];omega,?_⟩
    have S5:ao H (upd H3 wa (.lst (wv ++ [.ref p]))):=fun b o e=>by rw[ah (aq e aaq)];exact S4 _ _ (S3 b o e)
    have aat:p≠wa:=bY h3 Eg (by intro z;cases z)
    have FH:(upd H3 wa (.lst (wv ++ [.ref p]))) p=some (.tup [.int j,.str x,.str nm]):=by rw[ah aat];exact h3
    have YU:∀v,pD H1 v->pD (upd H3 wa (.lst (wv ++ [.ref p]))) v:=fun v ⟨a,i,y,n,e,ha,r⟩=>⟨a,i,y,n,e,by
     have n1:a≠pa:=bY ha R.pa (by intro z;cases z)
     have n2:a≠wa:=bY ha R.wa (by intro z;cases z)
     rw[ah n2];exact S4 _ _ (by rw[ah n1];exact ha),r⟩
    refine⟨_,rfl,p,_,1,.str x,rfl,rfl,aG.of FH,(show cI [V.int j,.str x,.str nm] ((1:Nat):Int)=some (V.str x) from eT rfl),?_⟩;have aiD:ps.length+1<=rows.length:=by simpa using aar
    have D0:=hS.bw;refine⟨rows.length - (ps ++ [nm]).length,by rw[R.mm,de];simp only[iN];omega,x,ps ++ [nm],wv ++ [.ref p],W ++ [(j,x,nm)],⟨_,rfl⟩,rfl,hx,?_,?_,?_,ag,?_,?_,S5,?_,?_⟩
    ·intro n z
     rcases fb.mp z with z|z
     ·exact R.hp n z
     ·have:n=nm:=by simpa using z
      rw[this];exact R.hn
    ·rw[jg]
     exact⟨R.nd,by simp,fun a ha b hb=>by rw[show b=nm by simpa using hb];exact fun h=>jA (h ▸ ha)⟩
    ·rw[ah FG,aas,bc];rfl
    ·rw[de,de,R.ln];rfl
    ·intro v z
     rcases fb.mp z with z|z
     ·exact YU v (R.OD v z)
     ·have:v = .ref p:=by simpa using z
      rw[this];exact⟨p,j,x,nm,rfl,FH,by omega,hS.head hx,hS.head R.hn⟩
    ·refine J9 (Paired.imp' (fun v w' ⟨a,e,ha⟩=>⟨a,e,?_⟩) R.pw) (w:=(j,x,nm)) ⟨p,rfl,FH⟩
     have n1:a≠pa:=bY ha R.pa (by intro z;cases z)
     have n2:a≠wa:=bY ha R.wa (by intro z;cases z)
     rw[ah n2];exact S4 _ _ (by rw[ah n1];exact ha)
    ·rw[<-R.eq]
     obtain⟨k,hk⟩:∃k,rows.length+1 - ps.length=k+1:=⟨rows.length - ps.length,by omega⟩
     rw[hk,show rows.length+1 - (ps ++ [nm]).length=k by rw[de,iN];omega]
     exact(WO jA es).symm
   ·have jA:nm∈ps:=by simpa using hn
    obtain⟨j,hj,j3⟩:=CS jA;refine⟨_,rfl,_,rfl,.inl ⟨rfl,_,ak.of R.pa⟩,_,rfl,pa,ps,nm,j,rfl,rfl,R.pa,hj,j3,_,rfl,wa,wv,rfl,ak.of R.wa,fun p5 pQ=>?_⟩;refine⟨_,rfl,p5,_,rfl,ak.of ag,fun p6 uY=>?_⟩;refine⟨p6,_,rfl,.inl ⟨ak.of ag,fun p7 OE=>?_⟩⟩;have T5:=R.sm.trans (ay (o:= .lst (d6 wv (some (j:Int)) none)) pQ);have T1:ao H1 _:=(ay (o:= .lst (d6 wv (some (j:Int)) none)) pQ).trans ((ay (o:= .lst (d6 wv (some (j:Int)) none).reverse) uY).trans (ay (o:= .tup (d6 wv (some (j:Int)) none).reverse) OE));refine q p7 _ _ (R.sm.trans T1) ((R.sm.trans ((ay (o:= .lst (d6 wv (some (j:Int)) none)) pQ).trans (ay (o:= .lst (d6 wv (some (j:Int)) none).reverse) uY))).free OE) ag ?_ (Ju ag (fun v hv=>?_) ?_)
    ·have ej:ps.idxOf nm=j:=J8 hj j3
     obtain⟨k,hk⟩:∃k,rows.length+1 - ps.length=k+1:=⟨rows.length - ps.length,by have:=DB R.nd R.hp;have:=sL rows;omega⟩
     rw[<-R.eq,hk,VW jA,ej];rw[show d6 wv (some (j:Int)) none=wv.drop j from KP _ _]at T1 ⊢;exact XW (WQ (Paired.imp' (fun v w' ⟨a,e,ha⟩=>⟨a,e,T1 _ _ ha⟩) R.pw))
    ·have hv1:v∈d6 wv (some (j:Int)) none:=RS.mp hv
     exact(R.OD v (BU (vE hv1))).same T1
    ·have h1:=I0 wv (some (j:Int)) none
     rw[Ie];have:=R.ln;omega
theorem VY {l:Addr}{ws:List V}{rows:List (List Str)}{H:Hp}{Q:VK}{E:XK} (hl:H l=some (.lst ws)) (hR:dz H ws rows) (hS:Small rows) (hF:dX rows=none) (hA:(rows.any fun r=>!r.isEmpty)=true)
  (q:∀p vs H',ao H H'->H p=none->H' p=some (.tup vs)->eZ H' vs (pz rows)->mJ H' (.ref p)->Q (.ref p) H'):sV [.ref l] H Q E:=by
 unfold sV;exact⟨l,ws,rows,rfl,hl,hR,hS,hF,hA,q⟩
end
theorem Jv {rest:List (List Str)} (h:total rest=0):(rest.any fun r=>!r.isEmpty)=false:=by
 cases e:rest.any fun r=>!r.isEmpty with
 |false=>rfl
 |true=>have:=Ct e;omega
theorem oV {rest:List (List Str)}{n:Str} (h:dX rest=some n):∃r∈rest,n∈r:=by
 obtain⟨r,hr,e⟩:=y9 h;exact⟨r,hr,RV e⟩
theorem Jw:∀ (k:Nat) (r:List (List Str)),total r<=k -> ∀j,total r<=j->aW k r=aW j r
 |0,r,h,j,_=>by
  have z:=Jv (show total r=0 by omega)
  cases j with
  |zero=>rfl
  |succ j=>unfold aW;rw[au (by rw[z];exact cP)]
 |k+1,r,h,0,hj=>by
  have z:=Jv (show total r=0 by omega)
  unfold aW;rw[au (by rw[z];exact cP)]
 |k+1,r,h,j+1,hj=>by
  unfold aW;split
  ·cases e:dX r with
   |none=>rfl
   |some n =>
    have:=qy (oV e);show Option.map _ _=Option.map _ _;rw[Jw k (without n r) (by omega) j (by omega)]
  ·rfl
theorem vK {r:List (List Str)} (h:(r.any fun r=>!r.isEmpty)=false):aW (total r) r=some []:=by
 cases total r with
 |zero=>rfl
 |succ k=>unfold aW;rw[au (by rw[h];exact cP)]
theorem vL {r:List (List Str)} (h:(r.any fun r=>!r.isEmpty)=true) (e:dX r=none):aW (total r) r=none:=by
 have:=Ct h;cases q:total r with
 |zero=>omega
 |succ k=>unfold aW;rw[aB h,e]
theorem vM {r:List (List Str)}{n:Str} (h:(r.any fun r=>!r.isEmpty)=true) (e:dX r=some n):aW (total r) r=(aW (total (without n r)) (without n r)).map (n :: ·):=by
 have:=qy (oV e);cases q:total r with
 |zero=>omega
 |succ k =>
  show(if (r.any fun r=>!r.isEmpty)=true then _ else _)=_;rw[aB h,e];show Option.map _ _=_;rw[Jw k (without n r) (by omega) _ (aO _)]
theorem IV {env:Env}:∀ {names:List (Str×NameKind)}{x:Str},names.lookup x=some .cell ->
  (names.map fun(n,k)=>if (k==NameKind.free && env.scope.kind == .function && env.kindOf n==some .cell) then (n,NameKind.cell) else (n,k)).lookup x=some .cell
 |[],_,h=>by simp at h
 |(n,k0)::r,x,h=>by
  have ih:=@IV env r x;show List.lookup x ((if (k0==NameKind.free && env.scope.kind == .function && env.kindOf n==some .cell)=true then (n,NameKind.cell) else (n,k0))::_)=_;rw[iO]at h;cases hx:x==n with
  |true =>
   rw[hx]at h;cases h
   rw[au (by simp),iO,hx]
  |false =>
   rw[hx]at h
   by_cases hc:(k0==NameKind.free && env.scope.kind == .function && env.kindOf n==some .cell)=true
   ·rw[aB hc,iO,hx];exact ih h
   ·rw[au hc,iO,hx];exact ih h
theorem nest {N N':List Str}{cw:List (Option Nat)}{uZ sc:Scope}{env:Env} (kind:sc.kind = .function) (keys:(sc.names.map (·.1)).Nodup) (nd:N'.Nodup) (len:cw.length=N'.length) (fv:MO N N' cw sc=true)
  (free:∀p∈sc.names,p.2 = .free->uZ.names.lookup p.1=some .cell\/uZ.names.lookup p.1=some .free):bX N (relabel uZ env) N' cw sc:=
 ⟨kind,keys,nd,len,cU fv,fun p hp e=>by
  rcases free p hp e with z|z
  ·exact .inl (IV z)
  ·exact BX z⟩
theorem zf {X:Cx} (K:Frag) (h:X.K=K):dY X (.type "tuple") (fun xs H Q=>∃p ys,xs = [.ref p]/\((ak K H p ys /\ ∀l,H l=none->Q (.ref l) (upd H l (.tup ys)))\/(aG K H p ys/\Q (.ref p) H))):=by subst h;exact jl
theorem boot_any:bootBuiltins "any" = some (.builtin "any"):=by decide +kernel
def DC (K:Frag) (C:Addr):Bool:=
 findIn K (.ref C) "__getattribute__" == some (some (.builtin "BaseException.__getattribute__")) && (findIn K (.ref C) "__getattr__" == some none && (findIn K (.ref C) "__setattr__" == some (some (.builtin "object.__setattr__")) && (hasDictIn K C &&
 (((clsIn K C).any fun cd=>tN cd.mro) && (mroIn K C (.type "BaseException")==some true && (mroIn K C (.type "ValueError")==some true && (mroIn K C (.type "object")==some true && (findIn K (.ref C) "__class__" == some (some (.builtin "object.__class__")) &&
 (specialIn K (.builtin "object.__class__") "__get__" == some (some (.builtin "getset_descriptor.__get__")) && takesIn K (.builtin "object.__class__")==some true)))))))))
theorem WR {K:Frag}{C:Addr} (h:DC K C=true):eI K C:=by
 unfold DC at h;simp only[vw,cT]at h;obtain⟨a,b,c,d,e,f,g,i,j,k,l⟩:=h;exact⟨a,b,c,d,e,f,g,i,j,k,l⟩
def Eh (a:Addr) (H H':Hp):Prop:= ∀b o,H b=some o->b≠a->H' b=some o
@[irreducible] def mV (K:Frag) (f g:Str):Sp:=fun vs H Q _=>∃ (a C:Addr) (k r:V) (i:Option Value),vs = [.ref a,k,r]/\H a=some (cf C none a)/\eI K C/\fc K C i=true/\mJ H k/\mJ H r/\findIn K (.ref C) f=some none/\findIn K (.ref C) g=some none /\
 ∀d H',H d=none->d≠a->H' a=some (cf C (some d) a)->H' d=some (d7 d [(f,k),(g,r)])->Eh a H H'->Q .aF H'
theorem KQ {a d C:Addr}{fs:List (Str×V)}{H:Hp} (hd:H d=none):Eh a H (upd (upd H d (d7 d fs)) a (cf C (some d) a)):=fun b o e n=>by
 rw[ah n,ah (aq e hd)];exact e
section
variable{P:Program}{w:World}{K:Frag}{mg:Str->Option Value}{base:Heap}{B:Addr}{f:Addr}{fd:FuncData}
theorem LZ:b8 ["self","kind","ring"] ["self","kind","ring"] (aJ pC):=⟨rfl,rfl,rfl,by decide +kernel,rfl,by decide +kernel,by decide +kernel⟩
theorem WS (F:aX K "__init__" "Ring.__init__" pC f fd) (b:wt K B) (mB:mg "LineError" = some (.ref B)):aH P w K mg base aK 1 f fd ["self","kind","ring"] (mV K "kind" "ring"):=by
 refine F.ok LZ (fun vs H Q E h=>?_) (fun cdv A outer s H vs Q E hr h=>?_)
 ·unfold mV at h;obtain⟨a,C,k,r,i,rfl,_⟩:=h;rfl
 ·unfold mV at h
  obtain⟨a,C,k,r,i,rfl,ha,c,qi,fk,fr,nk,nr,q⟩:=h;have hu:=hr.units;have hg:=hr.gd;refine⟨_,aC (iR (Jb b rfl mB (af (pv 0) (af (Ld (oW lu (oW (zN hu hg (pv 1)) (oW lu (oW (zN hu hg (pv 2)) LQ))))) ai))))
   (aC (Le (pv 0) (pv 1)) (aM (Ko (pv 0) (pv 2)))),?_⟩
  refine⟨_,rfl,⟨_,rfl,by decide +kernel⟩,_,rfl,fk,fun y1 xK=>⟨⟨_,rfl,xK⟩,⟨_,rfl,by decide +kernel⟩,_,rfl,fr,fun y2 xM=>⟨⟨_,rfl,xM⟩,fun y hy=>?_⟩⟩⟩
  refine⟨a,C,none,_,i,rfl,ha,c,qi,?_⟩;refine⟨_,rfl,_,rfl,a,C,rfl,ha,c,nk,fun d hd nh=>?_⟩;refine⟨_,rfl,_,rfl,a,C,d,_,rfl,ag,(by rw[ah nh];exact ag),c,nr,(by show 1 < 100;decide),?_⟩
  refine q d _ hd nh ?_ ag fun b o e n=>?_
  ·rw[ah (aQ nh)];exact ag
  ·rw[ah (aq e hd)];exact KQ hd b o e n
end
abbrev Lz:List Str:= ["rows","order","rest","name"]
theorem vY:b8 Lz ["rows"] (aJ wg):=⟨rfl,rfl,rfl,by decide +kernel,rfl,by decide +kernel,by decide +kernel⟩
abbrev M5:Expr:=eK (cb (vS (cb (cu wg) 2)) 3)
abbrev uZ:Scope:=cj M5
abbrev scI:Scope:=cj (eY (DO M5))
theorem OF:bX Lz (aJ wg) ["row","name"] [none,some 3] uZ:=⟨rfl,by decide +kernel,by decide +kernel,rfl,cU (by decide +kernel),by decide +kernel⟩
theorem csI {env:Env}:bX ["row","name"] (relabel uZ env) ["other","name"] [none,some 1] scI:=nest rfl (by decide +kernel) (by decide +kernel) rfl (by decide +kernel) (by decide +kernel)
theorem ndI:(["other","name"]:List Str).Nodup:=by decide +kernel
structure DP (K:Frag) (mg:Str->Option Value) (B C fI:Addr) (qa:FuncData):Prop where
 mC:mg "Ring" = some (.ref C)
 q:fc K C (some (.ref fI))=true
 fn:isFn K (.ref fI)=true
 kp:keepIn K (.ref C)=true
 F:aX K "__init__" "Ring.__init__" pC fI qa
 b:wt K B
 mB:mg "LineError" = some (.ref B)
 bi:Binds K qa ["self","kind","ring"] []
 x:eI K C
 nk:findIn K (.ref C) "kind" = some none
 nr:findIn K (.ref C) "ring" = some none
theorem VZ {H H':Hp}{x:V} (h:mJ H x) (s:ao H H'):mJ H' x:=by
 rcases h with h|h|⟨a,d,e,r,q⟩
 ·exact .inl h
 ·exact .inr (.inl h)
 ·exact .inr (.inr ⟨a,d,e,r.same s,q⟩)
theorem two_sp {K:Frag}{f g:Str}{a C:Addr}{k r:V}{i:Option Value}{H:Hp}{Q:VK}{E:XK} (ha:H a=some (cf C none a)) (x:eI K C) (q:fc K C i=true) (fk:mJ H k) (fr:mJ H r) (nk:findIn K (.ref C) f=some none) (nr:findIn K (.ref C) g=some none)
  (h:∀d H',H d=none->d≠a->H' a=some (cf C (some d) a)->H' d=some (d7 d [(f,k),(g,r)])->Eh a H H'->Q .aF H'):mV K f g [.ref a,k,r] H Q E:=by
 unfold mV;exact⟨a,C,k,r,i,rfl,ha,x,q,fk,fr,nk,nr,h⟩
theorem J' {H H':Hp}{vs:List V}{rows:List (List Str)} (h:dz H vs rows) (s:∀b xs,H b=some (.tup xs)->H' b=some (.tup xs)):dz H' vs rows:=Paired.imp' (fun _ _ ⟨a,e,q⟩=>⟨a,e,s _ _ q⟩) h
theorem IS {rest:List (List Str)}{n:Str} (S:Small rest):Small (without n rest):=by
 refine⟨by unfold L2.without;rw[ax];exact S.bw,fun r hr=>?_,fun r hr y hy=>?_⟩
 ·obtain⟨q,hq,rfl⟩:=aS.mp hr
  exact dU (jk _ _) (S.short q hq)
 ·obtain⟨q,hq,rfl⟩:=aS.mp hr
  exact S.nm q hq y (iC.mp hy).1
structure M6 (H:Hp) (rows:List (List Str)) (t oa:Addr) (m:Nat) (σ:St) (H1:Hp) (rest:List (List Str)) (ws:List V) (acc:List Str) (rl:Addr):Prop where
 st:∃v3:Option V,σ = [some (.ref t),some (.ref oa),some (.ref rl),v3]
 mm:m=total rest
 i8:H1 oa=some (.lst (acc.map V.str))
 j7:H1 rl=some (.lst ws)
 rr:dz H1 ws rest
 sm:Small rest
 ne:rl≠oa
 same:ao H H1
 lim:acc.length+total rest<=1000
 eq:aW (total rows) rows=(aW (total rest) rest).map (acc ++ ·)
 lD:qQ 1000 rows=qQ (1000 - acc.length) rest
 cut:Cut rows rest
theorem vJ:∀ {rows:List (List Str)},(∀r∈rows,r.length<=20)->total rows<=20 * rows.length
 |[],_=>bG _
 |r::rows,h=>by
  have h1:=vJ fun q hq=>h q (bJ _ hq);have h2:=h r aZ;have e:total (r::rows)=r.length+total rows:=by simp[total]
  rw[e,d4];omega
theorem V0 {K:Frag}{H:Hp}{ws:List V}{rows:List (List Str)} (h:dz H ws rows):Paired (fun y r=>∃a,y=V.ref a/\aG K H a r) ws (rows.map fun r=>r.map V.str):=by
 induction h with
 |nil=>exact .nil
 |cons p _ ih=>obtain⟨a,e,q⟩:=p;exact .cons ⟨a,e,aG.of q⟩ ih
theorem any_map (rows:List (List Str)):((rows.map fun r=>r.map V.str).any fun r=>!r.isEmpty)=rows.any fun r=>!r.isEmpty:=by
 rw[BJ];congr 1;funext r;cases r <;> rfl
section
variable{P:Program}{w:World}{K:Frag}{mg:Str->Option Value}{base:Heap}{f:Addr}{fd:FuncData}
@[irreducible] def sS (C:Addr):Sp:=fun vs H Q E=>∃ (t:Addr) (ws:List V) (rows:List (List Str)),vs = [.ref t]/\H t=some (.tup ws)/\dz H ws rows/\Small rows /\
 (aW (total rows) rows=none -> ∀a d p vs H',H a=none->H d=none->H p=none->ly (mG rows) 10 (qU rows)->ao H H'->H' a=some (eU (some .none) C (some d) a)->H' d=some (d7 d [("kind",.aF),("ring",.ref p)])->H' p=some (.tup vs)->eZ H' vs (qU rows)->E (.ref C) (some a) H')/\(∀o,aW (total rows) rows=some o -> ∀p H',H p=none->ao H H'->H' p=some (.tup (o.map V.str))->Q (.ref p) H')
theorem U6 {B C fI fL fW fR:Addr}{qa u0 ng FK:FuncData} (F:aX K "merged" "merged" wg f fd) (Bl:dJ mg) (T:DP K mg B C fI qa)
  (FW:aX K "wish_against" "wish_against" tR fW ng) (bW:Binds K ng ["rest","name"] []) (mW:mg "wish_against" = some (.ref fW))
  (FL:aX K "least_free" "least_free" zP fL u0) (bL:Binds K u0 ["rest"] []) (mL:mg "least_free" = some (.ref fL))
  (FR:aX K "ring_within" "ring_within" tE fR FK) (bR:Binds K FK ["rest"] []) (mR:mg "ring_within" = some (.ref fR)) :
  aH P w K mg base (eN P w) 3 f fd ["rows"] (sS C):=by
 have GL:aH P w K mg base aK 2 fL u0 ["rest"] sU:=VU FL Bl FW bW mW;have GR:aH P w K mg base aK 2 fR FK ["rest"] sV:=VX FR Bl FW bW mW;have GI:aH P w K mg base aK 1 fI qa ["self","kind","ring"] (mV K "kind" "ring"):=WS T.F T.b T.mB;refine F.xT vY (fun vs H Q E h=>?_) (fun cdv A outer s H vs Q E hr h=>?_)
 ·unfold sS at h;obtain⟨t,ws,rows,rfl,_⟩:=h;rfl
 ·unfold sS at h
  obtain⟨t,ws,rows,rfl,ht,hR,hS,qn,qs⟩:=h;have iA:aV 2 _:=hr;refine⟨_,aC (br (i:=1) vY.nd rfl (Or.inl rfl) (c8 ai))
   (aC (br (i:=2) vY.nd rfl (Or.inl rfl) (cY oU rfl Bl.list boot_list (af (pv 0) ai)))
   (aC (zt RY (sO (a8 (UG rfl) rfl Bl.any boot_any (af (pv 2) ai)) (fun _=>rfl))
    (aC (br (i:=3) vY.nd rfl (Or.inr rfl) (bf GL iA rfl mL FL.kp bL .nil bh (af (pv 2) ai)))
    (aC (dj (d5 zK (pv 3) jr (cZ _)) (aM (UM (Wq T.q T.fn T.kp GI iA T.bi bh rfl T.mC (af jr (af (bf GR iA rfl mR FR.kp bR .nil bh (af (pv 2) ai)) ai))))) dh)
    (aC (iR (iU kf qu qv k9 (pv 1) (af (pv 3) ai)))
    (aM (qA (i:=2) rfl OF vY.nd rfl rfl (gC (pv 2)) (fun s H fp=>⟨aU (i:=0) OF.nd rfl (Or.inl rfl),eF,
     cY (zf K rfl) rfl Bl.tuple boot_tuple (af (dv rfl csI (CI K rfl (pv 0)) (fun s H fp=>⟨aU (i:=0) ndI rfl (Or.inl rfl),lb (d5 wN (pv 0) (pv 1) rfl),pv 0⟩)) ai)⟩)))))))
   (aM (bg (cY jl rfl Bl.tuple boot_tuple (af (pv 1) ai)))))),?_⟩
  refine⟨bG _,fun oa i8=>⟨_,rfl,t,ws,rfl,.inr (aG.of (by rw[ah (aq ht i8)];exact ht)),fun rl j7=>?_⟩⟩
  have aau:(upd (upd H oa (.lst [])) rl (.lst ws)) oa=some (.lst []):=by rw[ah (aq ag j7)];exact ag
  have S1:ao H (upd (upd H oa (.lst [])) rl (.lst ws)):=(ay i8).trans (ay j7);refine⟨fun m σ H1=>∃rest gN acc rl,M6 H rows t oa m σ H1 rest gN acc rl,⟨_,rows,ws,[],rl,⟨none,rfl⟩,rfl,aau,ag,hR.same S1,hS,aQ (aq ag j7),S1,by have:=vJ hS.short;have:=hS.bw;simp only[yQ];omega,by cases aW (total rows) rows <;> rfl,rfl,.refl _⟩,?_⟩
  rintro m σ H1 ⟨rest,gN,acc,rl,R⟩;obtain⟨v3,rfl⟩:=R.st;refine⟨_,rfl,rl,gN,_,rfl,ak.of R.j7,V0 R.rr,_,rfl,?_⟩;rw[any_map];refine iH (fun hA=>?_) (fun hA=>?_)
  ·refine⟨fun aD H'=>∃m',m' < m /\ ∃rest gN acc rl,M6 H rows t oa m' aD H' rest gN acc rl,fun _ _ z=>z,?_⟩
   refine⟨_,rfl,VV R.j7 R.rr fun H2 S2=>?_⟩;have Ei:=Ct hA;cases e:dX rest with
   |none =>
    refine⟨_,rfl,rfl,_,rfl,?_⟩;refine⟨_,rfl,VY (S2 _ _ R.j7) (R.rr.same S2) R.sm e hA fun p vs H3 S3 ix ym hws hf=>?_⟩;have S4:ao H H3:=R.same.trans (S2.trans S3);refine⟨by show 2<=100;decide,fun a ha=>?_⟩
    have OG:H a=none:=S4.free ha;have hpH:H p=none:=(R.same.trans S2).free ix;have npa:p≠a:=aq ym ha;have eR:qU rows=pz rest:=by unfold qU;rw[R.lD,Uj e]
    refine two_sp ag T.x T.q (.inr (.inl rfl)) (VZ hf (ay ha)) T.nk T.nr fun d H4 hd nh h1 h2 kp=>⟨rfl,a,C,some d,_,rfl,h1,fun d' ed=>by cases ed;exact⟨_,h2⟩,T.x,T.q,OG,?_⟩
    have qb:H3 d=none:=by rw[ah nh]at hd;exact hd
    have kX:∀b o,H3 b=some o->upd H4 a (eU (some .none) C (some d) a) b=some o:=fun b o hb=>by
     have nb:b≠a:=aq hb ha;rw[ah nb];exact kp b o (by rw[ah nb];exact hb) nb
    refine qn (by rw[R.eq,vL hA e];rfl) a d p vs _ OG (S4.free qb) hpH ?_ (fun b o hb=>kX b o (S4 b o hb)) ag (by rw[ah nh];exact h2) (kX _ _ ym) ?_
    ·rw[eR]
     have q:=(WN e hA).imp fun w=>R.cut.ko;exact⟨q.len,dU q.bw R.sm.bw,q.at_,q.turn,q.nd⟩
    ·rw[eR];exact Paired.imp' (fun v w ⟨b,eb,hb⟩=>⟨b,eb,kX _ _ hb⟩) hws
   |some n =>
    refine⟨_,rfl,rfl,_,rfl,?_⟩;have Ej:H2 oa=some (.lst (acc.map V.str)):=S2 _ _ R.i8;refine⟨_,rfl,.inl ⟨rfl,_,ak.of Ej⟩,_,rfl,oa,_,_,rfl,rfl,Ej,by have:=R.lim;rw[ax,aE];omega,?_⟩
    generalize A1:upd H2 oa (.lst (acc.map V.str ++ [Ef (some n)]))=H3;have S3:ao H H3:=fun b o eb=>by rw[<-A1,ah (aq eb i8)];exact S2 _ _ (R.same b o eb)
    have nro:rl≠oa:=R.ne;have M7:H3 rl=some (.lst gN):=by rw[<-A1,ah nro];exact S2 _ _ R.j7
    have OH:dz H3 gN rest:=J' R.rr fun b xs hb=>by rw[<-A1,ah (bY (S2 _ _ hb) Ej (by intro z;cases z))];exact S2 _ _ hb
    have M8:H3 oa=some (.lst ((acc ++ [n]).map V.str)):=by rw[<-A1,ag,bc];rfl
    refine⟨_,rfl,rl,rfl,⟨_,ak.of M7⟩,fun a1 gY=>?_⟩;have n1o:a1≠oa:=fun z=>by rw[z,M8]at gY;cases gY
    refine gR (xs:=gN) (fun i ys τ H4=>∃t0:Option V,τ = [t0,some (.str n)]/\H4 a1=some (.lst ys)/\ao H3 H4/\dz H4 ys (L2.without n (rest.take i))) ⟨none,rfl,ag,ay gY,.nil⟩ (fun i ys τ H4 ⟨_,_,h1,h2,_⟩=>⟨h1,ak.of (h2 _ _ M7)⟩) ?_ ?_
    ·rintro i x ys τ H4 hx ⟨t0,rfl,u3,S4,yn⟩
     obtain⟨a,r,rfl,cW,gf⟩:=OH.get hx;have aP:i < gN.length:=(bU.mp hx).1;have tk:rest.take (i+1)=rest.take i ++ [r]:=by rw[df,cW];rfl
     refine⟨_,rfl,a,rfl,⟨_,aG.of (S4 _ _ gf)⟩,fun b1 gL=>?_⟩;have OI:(upd H4 b1 (.lst [])) a=some (.tup (r.map V.str)):=by rw[ah (aq (S4 _ _ gf) gL)];exact S4 _ _ gf
     have FO:a≠b1:=aq (S4 _ _ gf) gL;refine jK (xs:=r.map V.str) (fun j zs gJ H5=>∃t1:Option V,gJ = [t1,some (.str n)]/\zs=((r.take j).filter fun y=>!decide (y=n)).map V.str/\H5=upd H4 b1 (.lst zs)) ⟨none,rfl,rfl,rfl⟩ (fun j zs gJ H5 ⟨_,_,_,z⟩=>by rw[z];exact⟨ag,aG.of (by rw[ah FO];exact S4 _ _ gf)⟩) ?_ ?_
     ·rintro j x zs gJ H5 d9 ⟨t1,rfl,rfl,rfl⟩
      have cg:j < (r.map V.str).length:=(bU.mp d9).1;have iL:j < r.length:=by simpa using cg
      obtain rfl:V.str r[j]=x:=by simpa [iL] using d9
      have i9:r.take (j+1)=r.take j ++ [r[j]]:=by rw[df,bH iL];rfl
      refine⟨_,rfl,_,rfl,rfl,_,rfl,?_⟩;refine iH (fun bx=>?_) (fun bx=>?_)
      ·have mZ:r[j]≠n:=fun z=>by rw[z]at bx;simp at bx
       refine⟨_,rfl,ag,?_,cw_next cg ⟨_,rfl,?_,by rw[iQ]⟩⟩
       ·have h1:=jk (fun y=>!decide (y=n)) (r.take j)
        have h2:(r.take j).length<=r.length:=by rw[cK];omega
        have h3:=R.sm.short r (gB cW);rw[ax,aE];omega
       ·rw[i9,kh,bc,su (by simpa using mZ)];rfl
      ·have hy:r[j]=n:=by
        by_cases z:r[j]=n
        ·exact z
        ·exact absurd (by simp[z]) bx
       refine cw_next cg ⟨_,rfl,?_,rfl⟩;rw[i9];simp[hy]
     ·rintro zs gJ H5 ⟨t1,rfl,rfl,rfl⟩
      rw[ax,du];refine⟨b1,_,rfl,.inl ⟨ak.of ag,fun l hl=>?_⟩⟩;have n1b:a1≠b1:=aq u3 gL;have Sb:ao H4 (upd (upd H4 b1 (.lst ((r.filter fun y=>!decide (y=n)).map V.str))) l (.tup ((r.filter fun y=>!decide (y=n)).map V.str))):=(ay gL).trans (ay hl);have n1l:a1≠l:=aq (by rw[ah n1b];exact u3) hl
      refine⟨Sb _ _ u3,?_,cw_next aP ⟨_,rfl,ag,fun b o hb=>?_,?_⟩⟩
      ·have h1:=yn.length
       have h2:(L2.without n (rest.take i)).length<=rest.length:=by unfold L2.without;rw[ax,cK];omega
       have h3:=R.sm.bw;rw[aE];omega
      ·rw[ah (aq hb gY)];exact Sb _ _ (S4 b o hb)
      ·have e1:L2.without n (rest.take (i+1))=L2.without n (rest.take i) ++ [r.filter fun y=>!decide (y=n)]:=by rw[tk];unfold L2.without;rw[bc];rfl
       rw[e1];refine dz.append (J' yn fun b xs hb=>?_) ?_
       ·rw[ah (bY hb u3 (by intro z;cases z))];exact Sb _ _ hb
       ·rw[ah (aQ n1l)];exact ag
    ·rintro ys τ H4 ⟨t0,rfl,u3,S4,yn⟩
     rw[OH.length,du]at yn;have lt:=qy (oV e);refine⟨_,by rw[R.mm];exact lt,L2.without n rest,ys,acc ++ [n],a1,⟨_,rfl⟩,rfl,S4 _ _ M8,u3,yn,IS R.sm,n1o,S3.trans S4,?_,?_,?_,R.cut.without n⟩
     ·have:=R.lim;rw[de,iN];omega
     ·rw[R.eq,vM hA e,BV]
      congr 1
      funext z
      simp
     ·have MJ:=R.lim
      rw[R.lD,de,iN];obtain⟨k,hk⟩:∃k,1000 - acc.length=k+1:=⟨1000 - acc.length - 1,by omega⟩
      rw[hk,Ui e,show 1000 - (acc.length+1)=k by omega]
  ·refine⟨_,rfl,oa,_,rfl,.inl ⟨ak.of R.i8,fun p hp=>?_⟩⟩
   refine qs acc ?_ p _ (R.same.free hp) (R.same.trans (ay hp)) ag;rw[R.eq,vK (by simpa using hA)]
   show some (acc ++ [])=some acc;rw[gP]
end
end j6
namespace j6
open PySem L2
theorem boot_max:bootBuiltins "max" = some (.builtin "max"):=by decide +kernel
theorem boot_abs:bootBuiltins "abs" = some (.builtin "abs"):=by decide +kernel
section
variable{P:Program}{w:World}{K:PySem.W.Frag}{mg:Str->Option Value}{base:Heap}
@[irreducible] def tT (K:PySem.W.Frag):Sp:=fun vs H Q _=>∃ (a:Addr) (ns:List Int) (k:Int),vs = [.ref a,.int k]/\ak K H a (ns.map V.int)/\0<=k/\k<=100/\ns.length<=63 /\
 ∀ (p:Addr) (x y:Int),H p=none->0<=x->0<=y->y < 4294967296->Q (.ref p) (upd H p (.lst [.int x,.int y]))
theorem DQ:b8 ["_law_script","_law_k","_law_cell"] ["_law_script","_law_k"] (aJ Ed):=⟨rfl,rfl,rfl,by decide +kernel,rfl,by decide +kernel,by decide +kernel⟩
theorem WT {ns:List Int}{i:Nat} (h:i < ns.length):∃z,(ns.map V.int)[i]? = some (V.int z):=⟨ns[i],by rw[gA,bH h];rfl⟩
theorem XX {f:Addr}{fd:FuncData} (F:aX K "_law_pot" "_law_pot" Ed f fd) (B:dJ mg):aH P w K mg base aK 1 f fd ["_law_script","_law_k"] (tT K):=by
 refine F.ok DQ (fun vs H Q E h=>?_) (fun cdv A outer s H vs Q E hr h=>?_)
 ·unfold tT at h;obtain⟨a,ns,k,rfl,_⟩:=h;rfl
 ·unfold tT at h
  obtain⟨a,ns,k,rfl,hS,k0,k1,hl,q⟩:=h;refine⟨_,aC (br (i:=2) DQ.nd rfl (Or.inl rfl) aN)
   (aC (dj (d5 zV (pv 1) (a8 iE (by rfl) B.len gq (af (pv 0) ai)) (cZ _))
     (aM (br (i:=2) DQ.nd rfl (Or.inl rfl) (cz fX (pv 0) (pv 1) (fun _ _=>rfl)))) dh)
   (aM (bg (c8 (af (a8 (JC rfl) (by rfl) B.max boot_max (af aN (af (cG LL (a8 Kl (by rfl) B.abs boot_abs (af (pv 2) ai)) (cG Xt aN aN)) ai)))
    (af (cG pq (cG pq (cG wo (a8 Kl (by rfl) B.abs boot_abs (af (pv 2) ai)) aN) (cG Dr aN (pv 1))) aN) ai)))))),?_⟩
  refine⟨_,rfl,_,rfl,a,_,rfl,.inl hS,_,_,rfl,rfl,_,rfl,?_⟩;have aiM:∀c:Int,0<=(if c < 0 then -c else c):=fun c=>by split <;> omega
  have fin:∀c:Int,∀p,H p=none->Q (.ref p) (upd H p (.lst [.int (if (if c < 0 then -c else c) - 10 ^ (18:Int).toNat > 0 then (if c < 0 then -c else c) - 10 ^ (18:Int).toNat else 0),.int ((if c < 0 then -c else c) % 2147483587+101 * k+3)])):=fun c p hp=>by
   have h1:=IF (if c < 0 then -c else c) (show(2147483587:Int)≠0 by decide)
   have h2:=IG (if c < 0 then -c else c) (show(0:Int) < 2147483587 by decide)
   refine q p _ _ hp ?_ (by omega) (by omega)
   generalize (if c < 0 then -c else c) - 10 ^ (18:Int).toNat=d;split <;> omega
  have tail:∀c:Int,∃ (x:V),([some (.ref a),some (.int k),some (.int c)]:St)[2]? = some (some x):=fun c=>⟨_,rfl⟩;refine iH (fun hk=>?_) (fun hk=>?_)
  ·have xF:k < ((ns.map V.int).length:Int):=yZ hk
   rw[ax]at xF;obtain⟨z,hz⟩:=WT (ns:=ns) (i:=k.toNat) (by omega)
   refine⟨_,rfl,_,rfl,a,_,_,_,rfl,rfl,hS,(by rw[show k=((k.toNat:Nat):Int) by omega];exact eT hz),?_⟩
   refine⟨_,rfl,z,rfl,_,_,rfl,rfl,⟨by decide,by decide,by decide⟩,_,_,rfl,rfl,_,_,rfl,?_⟩
   refine⟨_,rfl,z,rfl,_,_,rfl,rfl,(by show(0:Int) < 2147483587;decide),_,rfl,_,_,rfl,rfl,.inl ⟨by decide,by decide⟩,_,_,rfl,rfl,_,_,rfl,rfl,(by show 2<=sizeLine;rw[aE];decide),fun p hp=>fin z p hp⟩
  ·refine⟨_,rfl,0,rfl,_,_,rfl,rfl,⟨by decide,by decide,by decide⟩,_,_,rfl,rfl,_,_,rfl,?_⟩
   refine⟨_,rfl,0,rfl,_,_,rfl,rfl,(by show(0:Int) < 2147483587;decide),_,rfl,_,_,rfl,rfl,.inl ⟨by decide,by decide⟩,_,_,rfl,rfl,_,_,rfl,rfl,(by show 2<=sizeLine;rw[aE];decide),fun p hp=>fin 0 p hp⟩
@[irreducible] def my:Sp:=fun vs H Q _=>∃ (p:Addr) (m x y:Int),vs = [.ref p,.int m]/\H p=some (.lst [.int x,.int y])/\0<=x/\0<=y/\y < 4294967296/\0 < m/\m<=1000000 /\
 ∀ (d x' y':Int),0<=d->d < m->0<=x'->0<=y'->y' < 4294967296->Q (.int d) (upd H p (.lst [.int x',.int y']))
theorem LA:b8 ["_law_pot_here","_law_many","_law_digit_here"] ["_law_pot_here","_law_many"] (aJ wB):=⟨rfl,rfl,rfl,by decide +kernel,rfl,by decide +kernel,by decide +kernel⟩
theorem CT {f:Addr}{fd:FuncData} (F:aX K "_law_digit" "_law_digit" wB f fd):aH P w K mg base aK 1 f fd ["_law_pot_here","_law_many"] my:=by
 refine F.ok LA (fun vs H Q E h=>?_) (fun cdv A outer s H vs Q E hr h=>?_)
 ·unfold my at h;obtain⟨p,m,x,y,rfl,_⟩:=h;rfl
 ·unfold my at h
  obtain⟨p,m,x,y,rfl,hp,x0,y0,y1,m0,m1,q⟩:=h;refine⟨_,aC (dj (d5 Mc (cz fX (pv 0) aN (fun _ _=>rfl)) aN (cZ _))
    (aC (br (i:=2) LA.nd rfl (Or.inl rfl) (cG wo (cz fX (pv 0) aN (fun _ _=>rfl)) (pv 1)))
    (aC (tq (cG K6 (cz fX (pv 0) aN (fun _ _=>rfl)) (pv 1)) (LK (pv 0) aN set_list))
    (aM (bg (pv 2))))) dh)
   (aC (tq (cG wo (cG pq (cG Dr (cz fX (pv 0) aN (fun _ _=>rfl)) aN) aN) aN) (LK (pv 0) aN set_list))
   (aM (bg (cG wo (cG K6 (cG wo (cG Dr (cz fX (pv 0) aN (fun _ _=>rfl)) (cz fX (pv 0) aN (fun _ _=>rfl))) aN) aN) (pv 1))))),?_⟩
  have hl:ak K H p [.int x,.int y]:=ak.of hp;refine⟨_,rfl,p,_,0,_,rfl,rfl,hl,rfl,_,_,rfl,rfl,_,rfl,?_⟩;refine iH (fun hx=>?_) (fun hx=>?_)
  ·refine⟨_,rfl,p,_,0,_,rfl,rfl,hl,rfl,_,rfl,_,_,rfl,rfl,m0,?_⟩
   refine⟨_,rfl,p,_,0,_,rfl,rfl,hl,rfl,_,rfl,_,_,rfl,rfl,⟨m0,by omega⟩,_,rfl,p,_,0,0,rfl,rfl,hp,rfl,?_⟩
   refine⟨_,rfl,?_⟩;exact q _ _ _ (IF _ (by omega)) (IG _ m0) (Int.ediv_nonneg x0 (by omega)) y0 y1
  ·refine⟨_,rfl,p,_,1,_,rfl,rfl,hl,rfl,_,_,rfl,rfl,.inr ⟨by decide,by decide⟩,_,_,rfl,rfl,_,_,rfl,rfl,(by show(0:Int) < 2147483647;decide),_,rfl,p,_,1,1,rfl,rfl,hp,rfl,?_⟩
   have h1:=IF (y * 39373+20011) (show(2147483647:Int)≠0 by decide)
   have h2:=IG (y * 39373+20011) (show(0:Int) < 2147483647 by decide)
   refine⟨_,rfl,p,_,1,_,rfl,rfl,ak.of ag,rfl,_,rfl,p,_,1,_,rfl,rfl,ak.of ag,rfl,_,_,rfl,rfl,.inl ⟨Int.lt_of_lt_of_le (by decide) h1,Int.lt_of_lt_of_le h2 (by decide)⟩,_,_,rfl,rfl,(by show(0:Int) < 2147483563;decide),_,_,rfl,rfl,⟨by decide,by decide⟩,_,rfl,_,_,rfl,rfl,m0,?_⟩
   exact q _ x _ (IF _ (by omega)) (IG _ m0) x0 h1 (by omega)
end
def dZ (p:Addr) (H:Hp):Prop:= ∃x y:Int,H p=some (.lst [.int x,.int y])/\0<=x/\0<=y/\y < 4294967296
structure bp (p:Addr) (H H':Hp):Prop where
 ok:dZ p H'
 kp:∀b o,H b=some o->b≠p->H' b=some o
section
variable{p q:Addr}{H H1 H2:Hp}{o:HO}
theorem bp.refl (h:dZ p H):bp p H H:=⟨h,fun _ _ e _=>e⟩
theorem bp.trans (a:bp p H H1) (b:bp p H1 H2):bp p H H2:=⟨b.ok,fun c o e n=>b.kp c o (a.kp c o e n) n⟩
theorem dZ.ne (h:dZ p H) (hq:H q=none):p≠q:=let ⟨_,_,e,_⟩:=h;aq e hq
theorem bp.new (a:bp p H H1) (hq:H1 q=none):bp p H (upd H1 q o):=by
 refine⟨?_,fun b u e n=>?_⟩
 ·obtain⟨x,y,e,r⟩:=id a.ok
  exact⟨x,y,by rw[ah (a.ok.ne hq)];exact e,r⟩
 ·rw[ah (aq (a.kp b u e n) hq)];exact a.kp b u e n
theorem bp.free (a:bp p H H1) (hq:H1 q=none):H q=none:=by
 cases e:H q with
 |none=>rfl
 |some u =>
  by_cases h:q=p
  ·subst h;obtain⟨_,_,z,_⟩:=a.ok;rw[z]at hq;cases hq
  ·rw[a.kp q u e h]at hq;cases hq
theorem bp.write (a:bp p H H1) (hq:H q=none) (hp:p≠q):bp p H (upd H1 q o):=by
 refine⟨?_,fun b u e n=>?_⟩
 ·obtain⟨x,y,e,r⟩:=id a.ok
  exact⟨x,y,by rw[ah hp];exact e,r⟩
 ·rw[ah (aq e hq)];exact a.kp b u e n
theorem mq {m:Int}{Q:VK}{E:XK} (h:dZ p H) (m0:0 < m) (m1:m<=1000000) (k:∀d H',0<=d->d < m->bp p H H'->Q (.int d) H'):my [.ref p,.int m] H Q E:=by
 obtain⟨x,y,e,x0,y0,y1⟩:=h;unfold my;exact⟨p,m,x,y,rfl,e,x0,y0,y1,m0,m1,fun d x' y' d0 d1 h1 h2 h3=>k d _ d0 d1 ⟨⟨x',y',ag,h1,h2,h3⟩,fun b o z n=>by rw[ah n];exact z⟩⟩
end
theorem Ka:∀cs:List Nat,((cs.map sign).map (·.length)).sum=cs.length
 |[]=>rfl
 |c::cs=>by
  have e:(sign c).length=1:=rfl;simp only[cA,Iz,Ka cs,d4,e];omega
abbrev qL:Str:= "abcdefghijklmnopqrstuvwxyz"
theorem Kb {d:Int} (h0:0<=d) (h1:d < 26):∃c:Nat,cI qL.cps.toList d=some c/\97<=c/\c<=122/\c=97+d.toNat:=by
 have all:∀i:Nat,i < 26->qL.cps.toList[i]? = some (97+i):=by decide +kernel
 refine⟨97+d.toNat,?_,by omega,by omega,rfl⟩
 rw[show d=((d.toNat:Nat):Int) by omega]
 exact eT (all d.toNat (by omega))
section
variable{P:Program}{w:World}{K:PySem.W.Frag}{mg:Str->Option Value}{base:Heap}
@[irreducible] def sX:Sp:=fun vs H Q _=>∃ (p:Addr) (m:Nat),vs = [.ref p,.int m]/\dZ p H/\m<=20 /\
 ∀ (l:Addr) (ys:List Str) (H':Hp),H l=none->ys.length=m->(∀y∈ys,Nm y)->ys.Nodup->bp p H H'->H' l=some (.lst (ys.map V.str))->Q (.ref l) H'
abbrev zR:List Str:= ["_law_pot_here","_law_many","_law_letters","_law_found","_law_k","_law_size","_law_name","_law_some"]
theorem oX:b8 zR ["_law_pot_here","_law_many"] (aJ nR):=⟨rfl,rfl,rfl,by decide +kernel,rfl,by decide +kernel,by decide +kernel⟩
def L3 (s:Stmt):List Stmt:=match s with|.If _ b _ _=>b|_=>[]
abbrev aav:Scope:=cj (eY (eK (cb (Dn (cb (cu nR) 2)) 1)))
abbrev aaw:Scope:=cj (eK (cb (L3 (cb (Dn (cb (cu nR) 2)) 2)) 0))
abbrev aax:Scope:=cj (M3 (eK (cb (L3 (cb (Dn (cb (cu nR) 2)) 2)) 1)))
theorem OJ:bX zR (aJ nR) ["_law_turn","_law_letters","_law_pot_here"] [none,some 2,some 0] aav:=⟨rfl,by decide +kernel,by decide +kernel,rfl,cU (by decide +kernel),by decide +kernel⟩
theorem OL:bX zR (aJ nR) ["_law_turn","_law_letters","_law_name"] [none,some 2,some 6] aaw:=⟨rfl,by decide +kernel,by decide +kernel,rfl,cU (by decide +kernel),by decide +kernel⟩
theorem OM:bX zR (aJ nR) ["_law_one","_law_found"] [none,some 3] aax:=⟨rfl,by decide +kernel,by decide +kernel,rfl,cU (by decide +kernel),by decide +kernel⟩
theorem V1 {f fD:Addr}{fd rV:FuncData} (F:aX K "_law_names" "_law_names" nR f fd) (B:dJ mg) (FD:aX K "_law_digit" "_law_digit" wB fD rV) (bD:Binds K rV ["_law_pot_here","_law_many"] []) (mD:mg "_law_digit" = some (.ref fD)) :
  aH P w K mg base aK 3 f fd ["_law_pot_here","_law_many"] sX:=by
 have GD:aH P w K mg base aK 1 fD rV ["_law_pot_here","_law_many"] my:=CT FD;refine F.ok oX (fun vs H Q E h=>?_) (fun cdv A outer s H vs Q E hr h=>?_)
 ·unfold sX at h;obtain⟨p,m,rfl,_⟩:=h;rfl
 ·unfold sX at h
  obtain⟨p,m,rfl,hp,m1,q⟩:=h;have cO:aV 1 _:=hr.mono (by decide)
  refine⟨_,aC (br (i:=2) oX.nd rfl (Or.inr rfl) lu)
   (aC (br (i:=3) oX.nd rfl (Or.inr rfl) (c8 ai))
   (aC (jO ke rfl (nK rfl B.range (af (pv 1) ai)) (aU (i:=4) oX.nd rfl (Or.inl rfl))
    (aC (br (i:=5) oX.nd rfl (Or.inl rfl) (cG pq aN (bf GD cO rfl mD FD.kp bD .nil bh (af (pv 0) (af (cz fX (c8 (af aN (af aN (af aN ai))))
      (bf GD cO rfl mD FD.kp bD .nil bh (af (pv 0) (af aN ai))) (fun _ _=>rfl)) ai)))))
    (aC (br (i:=6) oX.nd rfl (Or.inr rfl) (iU PySem.F.plainAttrs_str PySem.F.slot_str_join PySem.F.type_str_join Wr lu
      (af (dv rfl OJ (nK rfl B.range (af (pv 5) ai)) (fun s H fp=>⟨aU (i:=0) OJ.nd rfl (Or.inl rfl),eF,cz LO (pv 1) (bf GD cO rfl mD FD.kp bD .nil bh (af (pv 2) (af aN ai))) (fun _ _=>rfl)⟩)) ai)))
    (aC (dj (d5 Ck (pv 6) (pv 3) rfl)
      (aC (qA (i:=7) rfl OL oX.nd rfl rfl (nK rfl B.range (af (cG pq (pv 1) aN) ai)) (fun s H fp=>⟨aU (i:=0) OL.nd rfl (Or.inl rfl),eF,
        cG Jh (cG Jh (mi XH (pv 2) mx (ll aN)) (cz LO (pv 1) (pv 0) (fun _ _=>rfl))) lu⟩))
      (aM (br (i:=6) oX.nd rfl (Or.inr rfl) (cz fX (dv rfl OM (gC (pv 7)) (fun s H fp=>⟨aU (i:=0) OM.nd rfl (Or.inl rfl),lb (d5 (Jn K rfl) (pv 0) (pv 1) rfl),pv 0⟩)) aN (fun _ _=>rfl)))))
      dh)
    (aM (iR (iU kf qu qv k9 (pv 3) (af (pv 6) ai))))))))
   (aM (bg (pv 3))))),?_⟩
  refine⟨bG _,fun l hl=>?_⟩;have cS:p≠l:=hp.ne hl;have em:((m:Int)).toNat=m:=nE m;refine⟨_,rfl,(m:Int),rfl,by omega,by omega,qE (fun i σ H1=>∃ (ys:List Str) (v4 v5 v6 v7:Option V),σ = [some (.ref p),some (.int m),some (.str qL),some (.ref l),v4,v5,v6,v7]/\ys.length=i/\(∀y∈ys,Nm y)/\ys.Nodup/\bp p H H1/\H1 l=some (.lst (ys.map V.str)))
   ⟨[],none,none,none,none,rfl,rfl,(fun y hy=>by simp at hy),lY,(bp.refl hp).new hl,ag⟩ ?_ ?_⟩
  ·rintro i σ H1 hi ⟨ys,v4,v5,v6,v7,rfl,hlen,A2,fU,pa,cy⟩
   rw[em]at hi;refine⟨_,rfl,by show 3<=sizeLine;rw[aE];decide,fun a hq=>⟨_,rfl,?_⟩⟩
   have nqp:a≠p:=aQ (pa.ok.ne hq);refine mq (p:=p) (m:=3) ((bp.refl pa.ok).new hq).ok (by decide) (by decide) fun d H2 d0 d1 pb=>?_
   obtain⟨mv,hat,mv0,mv1⟩:∃mv:Int,cI [V.int 1,V.int 2,V.int 8] d=some (V.int mv)/\0 < mv/\mv<=8:=by
    have:d=0\/d=1\/d=2:=by omega
    rcases this with rfl|rfl|rfl
    ·exact⟨1,rfl,by decide,by decide⟩
    ·exact⟨2,rfl,by decide,by decide⟩
    ·exact⟨8,rfl,by decide,by decide⟩
   refine⟨a,_,d,_,rfl,rfl,ak.of (pb.kp a _ ag nqp),hat,?_⟩;refine mq (p:=p) (m:=mv) pb.ok mv0 (by omega) fun e H3 e0 e1 pc=>⟨_,_,rfl,rfl,?_⟩
   have pd:bp p H1 H3:=(((bp.refl pa.ok).new hq).trans pb).trans pc;have FQ:H3 l=some (.lst (ys.map V.str)):=pd.kp l _ cy (aQ cS);refine⟨rfl,_,rfl,1+e,rfl,by omega,by omega,fun a1 gY=>?_⟩
   have AO:p≠a1:=pc.ok.ne gY;refine Jk (fun i zs τ H4=>∃ (cs:List Nat) (t0:Option V),zs=(cs.map sign).map V.str/\cs.length=i/\(∀c∈cs,97<=c/\c<=122)/\τ = [t0,some (.str qL),some (.ref p)]/\bp p H3 H4/\H4 a1=some (.lst zs))
    ⟨[],none,rfl,rfl,(fun c hc=>by simp at hc),rfl,(bp.refl pc.ok).new gY,ag⟩ (fun i zs τ H4 ⟨_,_,_,_,_,_,_,z⟩=>z) ?_ ?_
   ·rintro j zs τ H4 hj ⟨cs,t0,rfl,gX,FT,rfl,pe,hz⟩
    refine⟨_,rfl,_,rfl,mq (p:=p) (m:=26) pe.ok (by decide) (by decide) fun d H5 d0 d1 pf=>?_⟩
    obtain⟨c,hc,c0,c1,_⟩:=Kb d0 d1;have hz5:H5 a1=_:=pf.kp a1 _ hz (aQ AO);refine⟨qL,d,c,rfl,rfl,(by rw[aE];decide +kernel),hc,hz5,?_,cw_next hj ⟨cs ++ [c],_,?_,?_,?_,rfl,?_,ag⟩⟩
    ·rw[ax,ax,gX,aE];omega
    ·rw[bc,bc];rfl
    ·rw[de,gX];rfl
    ·intro x hx
     rcases fb.mp hx with h|h
     ·exact FT x h
     ·have:x=c:=by simpa using h
      rw[this];exact⟨c0,c1⟩
    ·exact(pe.trans pf).write ((bp.refl pc.ok).free gY) AO
   ·rintro zs τ H4 ⟨cs,t0,rfl,gX,FT,rfl,pe,hz⟩
    have A3:((cs.map sign).map (·.length)).sum=cs.length:=by
     exact Ka cs
    refine⟨("" : Str),a1,cs.map sign,rfl,rfl,.inl (ak.of hz),?_,?_⟩
    ·have:(Str.length ("" : Str))=0:=rfl
     rw[A3,this,gX];omega
    rw[TK];generalize M9:(⟨cs.toArray⟩:Str)=nm;have Ek:Nm nm:=by
     have el:nm.length=cs.length:=by rw[<-M9];show cs.toArray.size=_;simp
     refine⟨by omega,by omega,fun c hc=>FT c ?_⟩
     rw[<-M9]at hc;simpa using hc
    have pg:bp p H1 H4:=pd.trans pe;have rW:H4 l=some (.lst (ys.map V.str)):=pe.kp l _ FQ (aQ cS);refine⟨_,rfl,_,rfl,l,_,rfl,.inl (ak.of rW),rfl,mf _,_,rfl,?_⟩;rw[au cP,nM];refine iH (fun c9=>?_) (fun c9=>?_)
    ·
     refine⟨_,rfl,_,_,rfl,rfl,(m:Int)+1,rfl,by omega,by omega,fun a2 oz=>?_⟩
     refine Jk (fun i zs τ H5=>∃t0:Option V,zs=((List.range i).map fun j=>Txt.slice nm none (some 6)++sign (97+j)++("q" : Str)).map V.str/\τ = [t0,some (.str qL),some (.str nm)]/\H5=upd H4 a2 (.lst zs))
      ⟨none,rfl,rfl,rfl⟩ (fun i zs τ H5 ⟨_,_,_,z⟩=>by rw[z];exact ag) ?_ ?_
     ·rintro j zs τ H5 hj ⟨t0,rfl,rfl,rfl⟩
      have uU:j < m+1:=by omega
      obtain⟨c,hc,c0,c1,hce⟩:=Kb (d:=0+(j:Int)) (by omega) (by omega)
      have aay:c=97+j:=by rw[hce];omega
      have l1:(Txt.slice nm none (some 6)).length<=6:=Jm nm;refine⟨_,rfl,_,rfl,nm,rfl,by have:=Ek.hi;omega,_,rfl,_,rfl,qL,_,c,rfl,rfl,(by rw[aE];decide +kernel),hc,_,_,rfl,rfl,?_,_,_,rfl,rfl,?_,ag,?_,cw_next hj ⟨_,?_,rfl,?_⟩⟩
      ·show _+1<=sizeLine;rw[aE];omega
      ·have e1:(Txt.slice nm none (some 6)++(⟨#[c]⟩:Str)).length=(Txt.slice nm none (some 6)).length+1:=by
        show(_ ++ #[c]:Array Nat).size=_;rw[Ia];rfl
       have e2:(("q" : Str)).length=1:=by decide +kernel
       show(Txt.slice nm none (some 6)++(⟨#[c]⟩:Str)).length+_<=sizeLine;rw[e1,e2,aE];omega
      ·rw[ax,ax,Q7,aE];omega
      ·rw[List.range_succ,bc,bc,aay];rfl
      ·rw[iQ]
     ·rintro zs τ H5 ⟨t0,rfl,rfl,rfl⟩
      have em1:((m:Int)+1).toNat=m+1:=by omega
      generalize fh:(List.range ((m:Int)+1).toNat).map (fun j=>Txt.slice nm none (some 6)++sign (97+j)++("q" : Str))=cands;have cnd:cands.Nodup:=by
       rw[<-fh];refine List.Pairwise.map _ (fun a b OI h=>OI ?_) List.nodup_range;have:=Vs h;omega
      have cnm:∀y∈cands,Nm y:=by
       intro y hy;rw[<-fh]at hy;obtain⟨j,hj,rfl⟩:=aS.mp hy;have:=nC.mp hj;exact Ws Ek.az ⟨by omega,by omega⟩
      have aiN:cands.length=m+1:=by rw[<-fh,ax,Q7,em1]
      have u4:upd H4 a2 (.lst (cands.map V.str)) l=some (.lst (ys.map V.str)):=by rw[ah (aq rW oz)];exact rW
      refine⟨_,rfl,a2,rfl,⟨_,ak.of ag⟩,fun a3 qd=>?_⟩;refine gR (xs:=cands.map V.str) (fun i zs τ H6=>∃t0:Option V,zs=((cands.take i).filter (fun y=>!decide (y∈ys))).map V.str/\τ = [t0,some (.ref l)]/\H6=upd (upd H4 a2 (.lst (cands.map V.str))) a3 (.lst zs))
       ⟨none,rfl,rfl,rfl⟩ (fun i zs τ H6 ⟨_,_,_,z⟩=>by rw[z];exact⟨ag,ak.of (by rw[ah (aq ag qd)];exact ag)⟩) ?_ ?_
      ·rintro j x zs τ H6 hx ⟨t0,rfl,rfl,rfl⟩
       rw[gA]at hx;obtain⟨y,hy,rfl⟩:=iD.mp hx;have cg:j < (cands.map V.str).length:=by rw[ax];exact(bU.mp hy).1
       have tk:cands.take (j+1)=cands.take j ++ [y]:=by rw[df,hy];rfl
       have A4:(upd (upd H4 a2 (.lst (cands.map V.str))) a3 (.lst (((cands.take j).filter (fun y=>!decide (y∈ys))).map V.str))) l=some (.lst (ys.map V.str)):=by rw[ah (aq u4 qd)];exact u4
       refine⟨_,rfl,_,rfl,l,_,rfl,.inl (ak.of A4),rfl,mf _,_,rfl,?_⟩;rw[aB rfl,nM];refine iH (fun hn=>?_) (fun hn=>?_)
       ·refine⟨_,rfl,ag,?_,cw_next cg ⟨_,?_,rfl,?_⟩⟩
        ·have h1:=jk (fun y=>!decide (y∈ys)) (cands.take j)
         have h2:(cands.take j).length<=cands.length:=by rw[cK];omega
         rw[ax,aE];omega
        ·rw[tk,kh,bc,RZ,aB hn];rfl
        ·rw[iQ]
       ·refine cw_next cg ⟨_,?_,rfl,rfl⟩
        rw[tk,kh,RZ,au hn,List.filter_nil,gP]
      ·rintro zs τ H6 ⟨t0,rfl,rfl,rfl⟩
       rw[ax,du];obtain⟨y0,hy0,FU⟩:=zO (found:=ys) cnd (by omega)
       have iY:y0∈cands.filter (fun y=>!decide (y∈ys)):=iC.mpr ⟨hy0,by simpa using FU⟩
       cases hf:cands.filter (fun y=>!decide (y∈ys)) with
       |nil=>rw[hf]at iY;simp at iY
       |cons z1 zr =>
        have FC:z1∈cands.filter (fun y=>!decide (y∈ys)):=by rw[hf];exact aZ
        obtain⟨zc,zn⟩:=iC.mp FC;have zn':z1 ∉ ys:=by simpa using zn
        have A4:(upd (upd H4 a2 (.lst (cands.map V.str))) a3 (.lst ((z1::zr).map V.str))) l=some (.lst (ys.map V.str)):=by rw[ah (aq u4 qd)];exact u4
        have ph:bp p H (upd (upd H4 a2 (.lst (cands.map V.str))) a3 (.lst ((z1::zr).map V.str))):=((pa.trans pg).new oz).new qd;refine⟨a3,_,0,V.str z1,rfl,rfl,ak.of ag,(show cI ((z1::zr).map V.str) ((0:Nat):Int)=some (V.str z1) from eT rfl),?_⟩;refine⟨_,rfl,.inl ⟨rfl,_,ak.of A4⟩,_,rfl,l,_,_,rfl,rfl,A4,?_,?_⟩
        ·rw[ax,aE];omega
        ·refine⟨ys ++ [z1],_,_,_,_,rfl,by rw[de,hlen];rfl,?_,?_,?_,?_⟩
         ·intro y hy
          rcases fb.mp hy with h|h
          ·exact A2 y h
          ·have:y=z1:=by simpa using h
           rw[this];exact cnm z1 zc
         ·rw[jg]
          exact⟨fU,by simp,fun a ha b hb=>by rw[show b=z1 by simpa using hb];exact fun h=>zn' (h ▸ ha)⟩
         ·exact ph.write hl cS
         ·rw[ag,bc];rfl
    ·have jA:nm ∉ ys:=by simpa using c9
     have ph:bp p H H4:=pa.trans pg;refine⟨_,rfl,.inl ⟨rfl,_,ak.of rW⟩,_,rfl,l,_,_,rfl,rfl,rW,?_,?_⟩
     ·rw[ax,aE];omega
     ·refine⟨ys ++ [nm],_,_,_,_,rfl,by rw[de,hlen];rfl,?_,?_,?_,?_⟩
      ·intro y hy
       rcases fb.mp hy with h|h
       ·exact A2 y h
       ·have:y=nm:=by simpa using h
        rw[this];exact Ek
      ·rw[jg]
       exact⟨fU,by simp,fun a ha b hb=>by rw[show b=nm by simpa using hb];exact fun h=>jA (h ▸ ha)⟩
      ·exact ph.write hl cS
      ·rw[ag,bc];rfl
  ·rintro σ H1 ⟨ys,v4,v5,v6,v7,rfl,hlen,A2,fU,pa,cy⟩
   rw[em]at hlen;exact⟨_,rfl,q l ys H1 hl hlen A2 fU pa cy⟩
end
end j6
namespace j6
open PySem L2 PySem.W HT
theorem Jf {X:Cx} (K:Frag) (h:X.K=K):dY X (.type "list") (fun xs H Q=>∃p ys,xs = [.ref p]/\(ak K H p ys\/aG K H p ys) /\ ∀l,H l=none->Q (.ref l) (upd H l (.lst ys))):=by subst h;exact oU
theorem Ts {X:Cx} (K:Frag) (h:X.K=K) (hc:X.calm=true):dY X (.builtin "any") (fun xs H Q=>∃ (p:Addr) (bs:List Bool),xs = [.ref p]/\ak K H p (bs.map V.bl)/\Q (.bl (bs.any id)) H):=by subst h;exact JR hc
theorem U7 {X:Cx} (K:Frag) (h:X.K=K):As X (MG K):=by subst h;exact nP
def eX (av:Addr->Prop) (H:Hp) (vs:List V) (rows:List (List Str)):Prop:=Paired (fun y r=>∃a,y=V.ref a/\av a/\H a=some (.lst (r.map V.str))) vs rows
theorem qG {av:Addr->Prop}{H:Hp}:∀ {vs:List V}{rows:List (List Str)}{i:Nat}{v:V},eX av H vs rows->vs[i]? = some v -> ∃a r,v=V.ref a/\rows[i]? = some r/\av a/\H a=some (.lst (r.map V.str))
 |_,_,i,v,.nil,e=>by simp at e
 |_,_,0,v,.cons p _,e=>by
  obtain⟨a,rfl,n,q⟩:=p;simp at e;subst e;exact⟨a,_,rfl,rfl,n,q⟩
 |_,_,i+1,v,.cons _ t,e=>by
  obtain⟨a,r,e1,e2,n,q⟩:=qG (i:=i) t (by simpa using e)
  exact⟨a,r,e1,by simpa using e2,n,q⟩
theorem iP {av ON:Addr->Prop}{H H':Hp}{vs:List V}{rows:List (List Str)} (h:eX av H vs rows) (f:∀a xs,av a->H a=some (.lst xs)->ON a/\H' a=some (.lst xs)):eX ON H' vs rows:=
 Paired.imp' (fun _ _ ⟨a,e,n,q⟩=>⟨a,e,(f a _ n q).1,(f a _ n q).2⟩) h
theorem sE {av:Addr->Prop}{H:Hp}{vs:List V}{rows:List (List Str)}{a:Addr}{r:List Str}:eX av H vs rows->av a->H a=some (.lst (r.map V.str))->eX av H (vs ++ [.ref a]) (rows ++ [r])
 |.nil,n,q=>.cons ⟨a,rfl,n,q⟩ .nil
 |.cons p t,n,q=>.cons p (sE t n q)
theorem qz {av:Addr->Prop}{H:Hp}{vs:List V}{rows:List (List Str)} (h:eX av H vs rows):vs.length=rows.length:=jF h
theorem YV {x:Str} (h:Nm x):PyData.strOk x=true:=by
 unfold PyData.strOk;rw[<-Array.all_toList,oQ];intro c hc;have:=(h.az c hc).2;exact gm (by omega)
theorem mr (H:Hp):∀xs:List Str,gD H (xs.map V.str) (xs.map PyData.str)
 |[]=>.nil
 |x::xs=>.cons (.str x) (mr H xs)
theorem jn:∀ {xs:List Str},(∀x∈xs,Nm x)->PyData.canLayAll0 (xs.map PyData.str)=true
 |[],_=>rfl
 |x::xs,h=>by
  show(PyData.strOk x && PyData.canLayAll0 (xs.map PyData.str))=true;rw[YV (h x aZ),jn fun y hy=>h y (bJ _ hy)];rfl
theorem qD:∀xs:List Str,PyData.depthAll (xs.map PyData.str)=0
 |[]=>rfl
 |x::xs=>by rw[cA];simp only[PyData.depthAll,PyData.depth,qD xs,Nat.max_self]
theorem ne_nil {H:Hp}{a b:Addr}{xs:List Str}{Q:VK} (ha:H a=some (.lst (xs.map V.str))) (hb:H b=some (.lst [])) (hn:∀x∈xs,Nm x) (q:Q (.bl (!xs.isEmpty)) H):Ab (.ref a) (.ref b) H Q:=by
 refine⟨.list (xs.map PyData.str),.list [],.lst ha (mr _ _),.lst hb .nil,jn hn,rfl,by show PyData.depthAll _+1<=60;rw[qD];decide,?_⟩
 cases xs with
 |nil=>exact q
 |cons x xs=>exact q
theorem eq_nil {H:Hp}{a b:Addr}{xs:List Str}{Q:VK} (ha:H a=some (.lst (xs.map V.str))) (hb:H b=some (.lst [])) (hn:∀x∈xs,Nm x) (q:Q (.bl xs.isEmpty) H):Aa (.ref a) (.ref b) H Q:=by
 refine⟨.list (xs.map PyData.str),.list [],.lst ha (mr _ _),.lst hb .nil,jn hn,rfl,by show PyData.depthAll _+1<=60;rw[qD];decide,?_⟩
 cases xs with
 |nil=>exact q
 |cons x xs=>exact q
theorem U8 (xs:List V) (k:Nat):d6 xs (some (k:Int)) none=xs.drop k:=by
 unfold d6;rw[HT.CG,HT.C4]
 by_cases h:k<=xs.length
 ·rw[IE h,Ir (by rw[HK];omega)]
 ·rw[RU (by omega),IA,Rc (by omega)];simp
def busy (rest:List (List Str)) (x:Str):Bool:=rest.any fun o=>decide (x∈o.drop 1)
def dB (all:List (List Str)):List (List Str)->List Str
 |[]=>[]
 |[]::rest=>dB all rest
 |(x::_)::rest=>if busy all x then dB all rest else x::dB all rest
theorem sM {n:Str}:∀ {k:Nat}{rest:List (List Str)},b9 k rest n=none ↔ ∀r∈rest,n∈r->r.head? = some n
 |k,[]=>by simp[b9]
 |k,[]::rest=>by
  show b9 (k+1) rest n=none ↔ _;rw[sM (k:=k+1) (rest:=rest)];simp
 |k,(x::r)::rest=>by
  show(if n∈x::r/\x≠n then some (k,x) else b9 (k+1) rest n)=none ↔ _
  by_cases h:n∈x::r/\x≠n
  ·rw[aB h]
   constructor
   ·intro z;cases z
   ·intro z
    have:=z _ aZ h.1;exact absurd (by simpa using this) h.2
  ·rw[au h,sM (k:=k+1) (rest:=rest)]
   constructor
   ·intro z q hq hn
    rcases a9.mp hq with rfl|hq
    ·by_cases e:x=n
     ·rw[e];rfl
     ·exact absurd ⟨hn,e⟩ h
    ·exact z q hq hn
   ·exact fun z q hq=>z q (bJ _ hq)
theorem KR {all:List (List Str)} (fU:∀r∈all,r.Nodup) (x:Str):busy all x=false ↔ b9 0 all x=none:=by
 rw[sM];unfold busy;rw[QR]
 constructor
 ·intro h q hq hx
  have h1:=h q hq;cases q with
  |nil=>simp at hx
  |cons y t =>
   rcases a9.mp hx with rfl|hx
   ·rfl
   ·exact absurd (by simpa using hx) h1
 ·intro h r hr
  cases r with
  |nil=>simp
  |cons y t =>
   intro hx;have hx:x∈t:=by simpa using hx
   obtain rfl:y=x:=by simpa using h _ hr (bJ _ hx)
   exact(eP.mp (fU _ hr)).1 hx
theorem Cd {all:List (List Str)} (fU:∀r∈all,r.Nodup):∀rest:List (List Str),(dB all rest).head? = hV all rest
 |[]=>rfl
 |[]::rest=>Cd fU rest
 |(x::t)::rest=>by
  show(if busy all x then dB all rest else x::dB all rest).head? = if (b9 0 all x).isNone then some x else hV all rest;cases hb:busy all x with
  |false=>rw[(KR fU x).mp hb];rfl
  |true =>
   have hn:(b9 0 all x).isNone=false:=by
    cases z:b9 0 all x with
    |none=>rw[(KR fU x).mpr z]at hb;cases hb
    |some _=>rfl
   rw[hn];exact Cd fU rest
theorem vN (all:List (List Str)) (r:List Str):∀rest:List (List Str),dB all (rest ++ [r])=dB all rest++dB all [r]
 |[]=>rfl
 |[]::rest=>vN all r rest
 |(x::t)::rest=>by
  show(if busy all x then dB all (rest ++ [r]) else x::dB all (rest ++ [r]))=(if busy all x then dB all rest else x::dB all rest)++dB all [r];rw[vN all r rest];split <;> rfl
theorem Cv (all:List (List Str)):∀rest:List (List Str),(dB all rest).length<=rest.length
 |[]=>aO _
 |[]::rest=>Nat.le_succ_of_le (Cv all rest)
 |(x::t)::rest=>by
  have:=Cv all rest;show(if busy all x then dB all rest else x::dB all rest).length<=rest.length+1;split
  ·omega
  ·rw[d4];omega
theorem zp {all:List (List Str)}{n:Str}:∀ {rest:List (List Str)},n∈dB all rest -> ∃r∈rest,n∈r
 |[],h=>by simp[dB]at h
 |[]::rest,h=>let ⟨r,hr,e⟩:=zp (rest:=rest) h;⟨r,bJ _ hr,e⟩
 |(x::t)::rest,h=>by
  have h:n∈(if busy all x then dB all rest else x::dB all rest):=h;split at h
  ·obtain⟨r,hr,e⟩:=zp (rest:=rest) h
   exact⟨r,bJ _ hr,e⟩
  ·rcases a9.mp h with rfl|h
   ·exact⟨_,aZ,aZ⟩
   ·obtain⟨r,hr,e⟩:=zp (rest:=rest) h
    exact⟨r,bJ _ hr,e⟩
theorem Jx {n:Str}{rest:List (List Str)} (h:∀r∈rest,r.Nodup):∀r∈L2.without n rest,r.Nodup:=by
 intro r hr;obtain⟨q,hq,rfl⟩:=aS.mp hr;exact(h q hq).filter _
structure M' (H:Hp) (rows:List (List Str)) (l fa:Addr) (m:Nat) (σ:St) (H1:Hp) (rest:List (List Str)) (lv:List V) (acc:List Str) (la:Addr):Prop where
 st:∃v3:Option V,σ = [some (.ref l),some (.ref la),some (.ref fa),v3]
 mm:m=total rest
 qe:H1 la=some (.lst lv)
 rr:eX (fun a=>a≠fa) H1 lv rest
 ne:la≠fa
 iB:H1 fa=some (.lst (acc.map V.str))
 sm:Small rest
 nd:∀r∈rest,r.Nodup
 same:ao H H1
 lim:acc.length+total rest<=1000
 eq:aW (total rows) rows=(aW (total rest) rest).map (acc ++ ·)
abbrev yo:List Str:= ["_law_rows","_law_left","_law_found","_law_free"]
theorem xn:b8 yo ["_law_rows"] (aJ mn):=⟨rfl,rfl,rfl,by decide +kernel,rfl,by decide +kernel,by decide +kernel⟩
def U9 (s:Stmt):Expr:=match s with|.While t _ _ _=>t|_=>.Constant .none 0 ⟨0,0,0,0⟩
def DD (e:Expr):Expr:=match e with|.ListComp _ (⟨_,_,i::_,_⟩::_) _ _=>i|_=>.Constant .none 0 ⟨0,0,0,0⟩
def wG (e:Expr) (i:Nat):Expr:=match e with|.BoolOp _ es _=>es.getD i (.Constant .none 0 ⟨0,0,0,0⟩)|_=>.Constant .none 0 ⟨0,0,0,0⟩
def ud (e:Expr):Expr:=match e with|.UnaryOp _ x _=>x|_=>.Constant .none 0 ⟨0,0,0,0⟩
abbrev sW:Stmt:=cb (cu mn) 2
abbrev eA:Expr:=eK (cb (cu mn) 0)
abbrev eB:Expr:=eY (U9 sW)
abbrev eC:Expr:=eK (cb (vS sW) 0)
abbrev eD:Expr:=eY (ud (wG (DD eC) 1))
abbrev eE:Expr:=eK (cb (vS sW) 3)
theorem OO:bX yo (aJ mn) ["_law_row"] [none] (cj eA):=⟨rfl,by decide +kernel,by decide +kernel,rfl,cU (by decide +kernel),by decide +kernel⟩
theorem OP:bX yo (aJ mn) ["_law_row"] [none] (cj eB):=⟨rfl,by decide +kernel,by decide +kernel,rfl,cU (by decide +kernel),by decide +kernel⟩
theorem OQ:bX yo (aJ mn) ["_law_row","_law_left"] [none,some 1] (cj eC):=⟨rfl,by decide +kernel,by decide +kernel,rfl,cU (by decide +kernel),by decide +kernel⟩
theorem csD {env:Env}:bX ["_law_row","_law_left"] (relabel (cj eC) env) ["_law_other","_law_row"] [none,some 0] (cj eD):=nest rfl (by decide +kernel) (by decide +kernel) rfl (by decide +kernel) (by decide +kernel)
theorem ndD:(["_law_other","_law_row"]:List Str).Nodup:=by decide +kernel
theorem OR:bX yo (aJ mn) ["_law_row","_law_free"] [none,some 3] (cj eE):=⟨rfl,by decide +kernel,by decide +kernel,rfl,cU (by decide +kernel),by decide +kernel⟩
theorem csG {env:Env}:bX ["_law_row","_law_free"] (relabel (cj eE) env) ["_law_name","_law_free"] [none,some 1] (cj (DO eE)):=nest rfl (by decide +kernel) (by decide +kernel) rfl (by decide +kernel) (by decide +kernel)
theorem ndG:(["_law_name","_law_free"]:List Str).Nodup:=by decide +kernel
section
variable{P:Program}{w:World}{K:Frag}{mg:Str->Option Value}{base:Heap}{f:Addr}{fd:FuncData}
@[irreducible] def rh:Sp:=fun vs H Q _=>∃ (l:Addr) (ws:List V) (rows:List (List Str)),vs = [.ref l]/\H l=some (.lst ws)/\eX (fun _=>True) H ws rows/\Small rows/\(∀r∈rows,r.Nodup) /\
 (aW (total rows) rows=none -> ∀H',ao H H'->Q .aF H')/\(∀o,aW (total rows) rows=some o -> ∀p H',H p=none->ao H H'->H' p=some (.lst (o.map V.str))->Q (.ref p) H')
theorem Mo (F:aX K "_law_merged" "_law_merged" mn f fd) (B:dJ mg):aH P w K mg base aK 1 f fd ["_law_rows"] rh:=by
 refine F.ok xn (fun vs H Q E h=>?_) (fun cdv A outer s H vs Q E hr h=>?_)
 ·unfold rh at h;obtain⟨l,ws,rows,rfl,_⟩:=h;rfl
 ·unfold rh at h
  obtain⟨l,ws,rows,rfl,hl,hR,hS,fU,qn,qs⟩:=h;have hu:=hr.units;refine⟨_,aC (br (i:=1) xn.nd rfl (Or.inr rfl) (dv rfl OO (gC (pv 0)) (fun s H fp=>⟨aU (i:=0) OO.nd rfl (Or.inl rfl),eF,cY (Jf K rfl) rfl B.list boot_list (af (pv 0) ai)⟩)))
   (aC (br (i:=2) xn.nd rfl (Or.inl rfl) (c8 ai))
   (aC (zt ke (sO (a8 (JR rfl) rfl B.any boot_any (af (dv rfl OP (gC (pv 1)) (fun s H fp=>⟨aU (i:=0) OP.nd rfl (Or.inl rfl),eF,jo (zM hu) (pv 0) (c8 ai) (cZ _)⟩)) ai)) (fun _=>rfl))
    (aC (br (i:=3) xn.nd rfl (Or.inr rfl) (dv rfl OQ (gC (pv 1)) (fun s H fp=>⟨aU (i:=0) OQ.nd rfl (Or.inr rfl),
      lb (PW.pt (pw_and (d5 (zM hu) (pv 0) (c8 ai) (cZ _)) (pw_and1 (fq (eG (a8 (Ts K rfl rfl) rfl B.any boot_any (af (dv rfl csD (Cp K rfl (pv 1)) (fun s H fp=>⟨aU (i:=0) ndD rfl (Or.inl rfl),eF,jo (Lg K rfl) (cz (Co K rfl) (pv 1) aN (fun _ _=>rfl)) (mi (U7 K rfl) (pv 0) (ll aN) mx) rfl⟩)) ai))))))),
      cz (Co K rfl) (pv 0) aN (fun _ _=>rfl)⟩)))
    (aC (dj (d5 (tx hu) (pv 3) (c8 ai) (cZ _)) (aM (bg jr)) dh)
    (aC (iR (iU kf qu qv k9 (pv 2) (af (cz fX (pv 3) aN (fun _ _=>rfl)) ai)))
    (aM (br (i:=1) xn.nd rfl (Or.inr rfl) (dv rfl OR (gC (pv 1)) (fun s H fp=>⟨aU (i:=0) OR.nd rfl (Or.inl rfl),eF,
      dv rfl csG (Cp K rfl (pv 0)) (fun s H fp=>⟨aU (i:=0) ndG rfl (Or.inl rfl),lb (d5 wN (pv 0) (cz (Co K rfl) (pv 1) aN (fun _ _=>rfl)) (cZ _)),pv 0⟩)⟩))))))))
   (aM (bg (pv 2))))),?_⟩
  refine⟨_,rfl,l,rfl,⟨_,ak.of hl⟩,fun A5 rj=>?_⟩;refine gR (xs:=ws) (fun i ys τ H1=>∃t0:Option V,τ = [t0]/\H1 A5=some (.lst ys)/\ao H H1/\eX (fun a=>a≠A5) H1 ys (rows.take i)) ⟨none,rfl,ag,ay rj,.nil⟩ (fun i ys τ H1 ⟨_,_,z1,z2,_⟩=>⟨z1,ak.of (z2 _ _ hl)⟩) ?_ ?_
  ·rintro i x ys τ H1 hx ⟨t0,rfl,h1,S1,yp⟩
   obtain⟨a,r,rfl,cW,_,gf⟩:=qG hR hx;have aP:i < ws.length:=(bU.mp hx).1;have tk:rows.take (i+1)=rows.take i ++ [r]:=by rw[df,cW];rfl
   refine⟨_,rfl,a,_,rfl,.inl (ak.of (S1 _ _ gf)),fun c hc=>?_⟩;have Sc:=ay (o:= .lst (r.map V.str)) hc;have OS:c≠A5:=aQ (aq h1 hc);refine⟨Sc _ _ h1,?_,cw_next aP ⟨_,rfl,ag,fun b o hb=>?_,?_⟩⟩
   ·have h2:=qz yp
    have h3:=hS.bw;rw[cK]at h2;rw[aE];omega
   ·rw[ah (aq hb rj)];exact Sc _ _ (S1 b o hb)
   ·rw[tk]
    refine sE (iP yp fun b xs nb hb=>⟨nb,by rw[ah nb];exact Sc _ _ hb⟩) OS ?_
    rw[ah OS];exact ag
  ·rintro lv0 τ H1 ⟨t0,rfl,h1,S1,yp⟩
   rw[qz hR,du]at yp;refine⟨bG _,fun fa iB=>?_⟩;have Sf:=ay (o:= .lst []) iB;have ue:H fa=none:=S1.free iB;refine⟨fun m σ H2=>∃rest lv acc la,M' H rows l fa m σ H2 rest lv acc la,⟨_,rows,lv0,[],A5,⟨none,rfl⟩,rfl,Sf _ _ h1,iP yp fun b xs nb hb=>⟨aq hb iB,Sf _ _ hb⟩,aq h1 iB,ag,hS,fU,S1.trans Sf,by have:=vJ hS.short;have:=hS.bw;simp only[yQ];omega,by cases aW (total rows) rows <;> rfl⟩,?_⟩
   rintro m σ H2 ⟨rest,lv,acc,la,R⟩;obtain⟨v3,rfl⟩:=R.st;refine⟨_,rfl,la,rfl,⟨_,ak.of R.qe⟩,fun pb A6=>?_⟩;refine gR (xs:=lv) (fun i ys τ H3=>∃t0:Option V,τ = [t0]/\ys=((rest.take i).map fun r=>!r.isEmpty).map V.bl/\H3 pb=some (.lst ys)/\ao H2 H3) ⟨none,rfl,rfl,ag,ay A6⟩ (fun i ys τ H3 ⟨_,_,_,z1,z2⟩=>⟨z1,ak.of (z2 _ _ R.qe)⟩) ?_ ?_
   ·rintro i x ys τ H3 hx ⟨t0,rfl,rfl,h3,S3⟩
    obtain⟨a,r,rfl,cW,_,gf⟩:=qG R.rr hx;have aP:i < lv.length:=(bU.mp hx).1;have tk:rest.take (i+1)=rest.take i ++ [r]:=by rw[df,cW];rfl
    have oA:=gB cW;refine⟨_,rfl,bG _,fun z hz=>?_⟩;have Sz:=ay (o:= .lst []) hz;refine ne_nil (Sz _ _ (S3 _ _ gf)) ag (R.sm.nm r oA) ?_;refine⟨Sz _ _ h3,?_,cw_next aP ⟨_,rfl,by rw[tk,bc,bc];rfl,ag,fun b o hb=>by rw[ah (aq hb A6)];exact Sz _ _ (S3 b o hb)⟩⟩
    have h4:=R.sm.bw;rw[ax,ax,cK,aE];omega
   ·rintro bs τ H3 ⟨t0,rfl,rfl,h3,S3⟩
    rw[qz R.rr,du]at h3;refine⟨pb,_,rfl,ak.of h3,_,rfl,?_⟩;have ean:((rest.map fun r=>!r.isEmpty).any id)=rest.any fun r=>!r.isEmpty:=by rw[BJ];rfl
    rw[ean];have pH:=S3 _ _ R.qe;have uf:=S3 _ _ R.iB;have yq:eX (fun a=>a≠fa) H3 lv rest:=iP R.rr fun b xs nb hb=>⟨nb,S3 _ _ hb⟩;have OT:=R.same.trans S3;refine iH (fun hA=>?_) (fun hA=>?_)
    ·refine⟨fun aD H'=>∃m',m' < m /\ ∃rest lv acc la,M' H rows l fa m' aD H' rest lv acc la,fun _ _ z=>z,?_⟩
     refine⟨_,rfl,la,rfl,⟨_,ak.of pH⟩,fun pc FV=>?_⟩;refine gR (xs:=lv) (fun i ys τ H4=>∃t0:Option V,τ = [t0,some (.ref la)]/\ys=(dB rest (rest.take i)).map V.str/\H4 pc=some (.lst ys)/\ao H3 H4) ⟨none,rfl,rfl,ag,ay FV⟩ (fun i ys τ H4 ⟨_,_,_,z1,z2⟩=>⟨z1,ak.of (z2 _ _ pH)⟩) ?_ ?_
     ·rintro i x ys τ H4 hx ⟨t0,rfl,rfl,h4,S4⟩
      obtain⟨a,r,rfl,cW,_,gf⟩:=qG yq hx;have aP:i < lv.length:=(bU.mp hx).1;have tk:rest.take (i+1)=rest.take i ++ [r]:=by rw[df,cW];rfl
      have oA:=gB cW;have Na:=S4 _ _ gf;refine⟨_,rfl,bG _,fun z hz=>?_⟩;have Sz:=ay (o:= .lst []) hz;refine ne_nil (Sz _ _ Na) ag (R.sm.nm r oA) ⟨_,rfl,?_⟩;have h5:=Sz _ _ h4;cases r with
      |nil=>exact cw_next aP ⟨_,rfl,by rw[tk,vN];show _=(_ ++ []).map _;rw[gP],h5,S4.trans Sz⟩
      |cons y t =>
       refine⟨_,rfl,la,rfl,⟨_,ak.of (Sz _ _ (S4 _ _ pH))⟩,fun pd u6=>?_⟩;have npd:pc≠pd:=aq h5 u6;refine gR (xs:=lv) (fun j ys τ H6=>∃t1:Option V,τ = [t1,some (.ref a)]/\ys=((rest.take j).map fun o=>decide (y∈o.drop 1)).map V.bl/\H6 pd=some (.lst ys)/\ao (upd H4 z (.lst [])) H6) ⟨none,rfl,rfl,ag,ay u6⟩ (fun j ys τ H6 ⟨_,_,_,z1,z2⟩=>⟨z1,ak.of (z2 _ _ (Sz _ _ (S4 _ _ pH)))⟩) ?_ ?_
       ·rintro j x ys τ H6 yr ⟨t1,rfl,rfl,h6,S6⟩
        obtain⟨b,o,rfl,hoj,_,hob⟩:=qG yq yr;have cg:j < lv.length:=(bU.mp yr).1;have i9:rest.take (j+1)=rest.take j ++ [o]:=by rw[df,hoj];rfl
        have OU:=S4.trans (Sz.trans S6);refine⟨_,rfl,a,_,0,.str y,rfl,rfl,ak.of (OU _ _ gf),j5,?_⟩;refine⟨_,rfl,_,rfl,b,_,rfl,ak.of (OU _ _ hob),fun p2 ix=>?_⟩;have ec:d6 (o.map V.str) (some 1) none=(o.drop 1).map V.str:=by
         rw[show(1:Int)=((1:Nat):Int) from rfl,U8,IC]
        rw[ec];have S7:=ay (o:= .lst ((o.drop 1).map V.str)) ix;refine⟨p2,_,rfl,.inl (ak.of ag),rfl,mf _,?_⟩;rw[au cP,nM];refine⟨S7 _ _ h6,?_,cw_next cg ⟨_,rfl,by rw[i9,bc,bc];rfl,ag,fun c u hc=>by rw[ah (aq hc u6)];exact S7 _ _ (S6 c u hc)⟩⟩
        have h8:=R.sm.bw;rw[ax,ax,cK,aE];omega
       ·rintro bs2 τ H6 ⟨t1,rfl,rfl,h6,S6⟩
        rw[qz yq,du]at h6;refine⟨pd,_,rfl,ak.of h6,_,rfl,?_⟩;have eb:((rest.map fun o=>decide (y∈o.drop 1)).any id)=busy rest y:=by unfold busy;rw[BJ];rfl
        rw[eb];have lN:=Sz.trans S6;cases hb:busy rest y with
        |true =>
         refine cw_next aP ⟨_,rfl,?_,S6 _ _ h5,S4.trans lN⟩;rw[tk,vN];show _=(_++(if busy rest y then dB rest [] else y::dB rest [])).map _;rw[hb];show _=(_ ++ []).map _;rw[gP]
        |false =>
         refine⟨_,rfl,a,_,0,.str y,rfl,rfl,ak.of (lN _ _ Na),j5,S6 _ _ h5,?_,cw_next aP ⟨_,rfl,?_,ag,fun c u hc=>by rw[ah (aq hc FV)];exact lN _ _ (S4 c u hc)⟩⟩
         ·have h8:=Cv rest (rest.take i)
          have h9:=R.sm.bw;rw[cK]at h8;rw[ax,aE];omega
         ·rw[tk,vN]
          show _=(_++(if busy rest y then dB rest [] else y::dB rest [])).map _;rw[hb,bc];rfl
     ·rintro fr τ H4 ⟨t0,rfl,rfl,h4,S4⟩
      rw[qz yq,du]at h4;have OV:∀x∈dB rest rest,Nm x:=fun x hx=>by
       obtain⟨r,hr,e⟩:=zp hx;exact R.sm.nm r hr x e
      have hfh:=Cd R.nd rest;refine⟨_,rfl,bG _,fun z hz=>?_⟩;have Sz:=ay (o:= .lst []) hz;refine eq_nil (Sz _ _ h4) ag OV ⟨_,rfl,?_⟩;have u7:dX rest=(dB rest rest).head?:=hfh.symm;have FX:=OT.trans (S4.trans Sz);have h5:=Sz _ _ h4;have Nb:=Sz _ _ (S4 _ _ pH);have El:=Sz _ _ (S4 _ _ uf);generalize dB rest rest=fr at u7 h5 OV ⊢;cases fr with
      |nil =>
       refine qn ?_ _ FX;rw[R.eq,vL hA u7];rfl
      |cons n ft =>
       have e:dX rest=some n:=u7;have lt:=qy (oV e);generalize hG:upd H4 z (.lst [])=G at FX h5 Nb El Sz ⊢;have rrG:eX (fun a=>a≠fa) G lv rest:=iP yq fun b xs nb hb=>⟨nb,Sz _ _ (S4 _ _ hb)⟩;refine⟨_,rfl,.inl ⟨rfl,_,ak.of El⟩,_,rfl,pc,_,0,.str n,rfl,rfl,ak.of h5,j5,fa,_,_,rfl,rfl,El,by have:=R.lim;rw[ax,aE];omega,?_⟩
       have nj:pc≠fa:=aQ (aq uf FV);have h6:(upd G fa (.lst (acc.map V.str ++ [.str n]))) pc=some (.lst ((n::ft).map V.str)):=by rw[ah nj];exact h5
       have Em:(upd G fa (.lst (acc.map V.str ++ [.str n]))) la=some (.lst lv):=by rw[ah R.ne];exact Nb
       have Af:(upd G fa (.lst (acc.map V.str ++ [.str n]))) fa=some (.lst ((acc ++ [n]).map V.str)):=by rw[ag,bc];rfl
       have OW:ao H (upd G fa (.lst (acc.map V.str ++ [.str n]))):=fun b o hb=>by rw[ah (aq hb ue)];exact FX b o hb
       have FY:eX (fun a=>a≠fa) (upd G fa (.lst (acc.map V.str ++ [.str n]))) lv rest:=iP rrG fun b xs nb hb=>⟨nb,by rw[ah nb];exact hb⟩
       generalize upd G fa (.lst (acc.map V.str ++ [.str n]))=G6 at h6 Em Af OW FY ⊢;refine⟨_,rfl,la,rfl,⟨_,ak.of Em⟩,fun le hle=>?_⟩;have nle:le≠fa:=aQ (aq Af hle);refine gR (xs:=lv) (fun i ys τ H7=>∃t0:Option V,τ = [t0,some (.ref pc)]/\H7 le=some (.lst ys)/\ao G6 H7/\eX (fun a=>a≠fa/\a≠le) H7 ys (L2.without n (rest.take i))) ⟨none,rfl,ag,ay hle,.nil⟩ (fun i ys τ H7 ⟨_,_,z1,z2,_⟩=>⟨z1,ak.of (z2 _ _ Em)⟩) ?_ ?_
       ·rintro i x ys τ H7 hx ⟨t0,rfl,h7,S7,yt⟩
        obtain⟨a,r,rfl,cW,_,gf⟩:=qG FY hx;have aP:i < lv.length:=(bU.mp hx).1;have tk:rest.take (i+1)=rest.take i ++ [r]:=by rw[df,cW];rfl
        have oA:=gB cW;have En:=S7 _ _ gf;have Nc:=S7 _ _ h6;refine⟨_,rfl,a,rfl,⟨_,ak.of En⟩,fun b1 gL=>?_⟩;have FO:a≠b1:=aq En gL;have npb:pc≠b1:=aq Nc gL;have AM:b1≠le:=aQ (aq h7 gL);have nbf:b1≠fa:=aQ (aq (S7 _ _ Af) gL);refine gR (xs:=r.map V.str) (fun j zs gJ H8=>∃t1:Option V,gJ = [t1,some (.ref pc)]/\zs=((r.take j).filter fun y=>!decide (y=n)).map V.str/\H8=upd H7 b1 (.lst zs)) ⟨none,rfl,rfl,rfl⟩ (fun j zs gJ H8 ⟨_,_,_,z⟩=>by rw[z];exact⟨ag,ak.of (by rw[ah FO];exact En)⟩) ?_ ?_
        ·rintro j x zs gJ H8 d9 ⟨t1,rfl,rfl,rfl⟩
         have cg:j < (r.map V.str).length:=(bU.mp d9).1;have iL:j < r.length:=by simpa using cg
         obtain rfl:V.str r[j]=x:=by simpa [iL] using d9
         have i9:r.take (j+1)=r.take j ++ [r[j]]:=by rw[df,bH iL];rfl
         refine⟨_,rfl,_,rfl,pc,_,0,.str n,rfl,rfl,ak.of (by rw[ah npb];exact Nc),j5,rfl,_,rfl,?_⟩
         refine iH (fun bx=>?_) (fun bx=>?_)
         ·have mZ:r[j]≠n:=fun z=>by rw[z]at bx;simp at bx
          refine⟨_,rfl,ag,?_,cw_next cg ⟨_,rfl,?_,by rw[iQ]⟩⟩
          ·have h1:=jk (fun y=>!decide (y=n)) (r.take j)
           have h2:(r.take j).length<=r.length:=by rw[cK];omega
           have h3:=R.sm.short r oA;rw[ax,aE];omega
          ·rw[i9,kh,bc,su (by simpa using mZ)];rfl
         ·have hy:r[j]=n:=by
           by_cases z:r[j]=n
           ·exact z
           ·exact absurd (by simp[z]) bx
          refine cw_next cg ⟨_,rfl,?_,rfl⟩;rw[i9];simp[hy]
        ·rintro zs gJ H8 ⟨t1,rfl,rfl,rfl⟩
         rw[ax,du];have Sb:=ay (o:= .lst ((r.filter fun y=>!decide (y=n)).map V.str)) gL;refine⟨Sb _ _ h7,?_,cw_next aP ⟨_,rfl,ag,fun b o hb=>?_,?_⟩⟩
         ·have h1:=qz yt
          have h2:(L2.without n (rest.take i)).length<=rest.length:=by unfold L2.without;rw[ax,cK];omega
          have h3:=R.sm.bw;rw[aE];omega
         ·rw[ah (aq hb hle)];exact Sb _ _ (S7 b o hb)
         ·have e1:L2.without n (rest.take (i+1))=L2.without n (rest.take i) ++ [r.filter fun y=>!decide (y=n)]:=by rw[tk];unfold L2.without;rw[bc];rfl
          rw[e1];refine sE (iP yt fun b xs nb hb=>⟨nb,by rw[ah nb.2];exact Sb _ _ hb⟩) ⟨nbf,AM⟩ ?_
          rw[ah AM];exact ag
       ·rintro ys τ H7 ⟨t0,rfl,h7,S7,yt⟩
        rw[qz FY,du]at yt;refine⟨_,by rw[R.mm];exact lt,L2.without n rest,ys,acc ++ [n],le,⟨_,rfl⟩,rfl,h7,iP yt fun b xs nb hb=>⟨nb.1,hb⟩,nle,S7 _ _ Af,IS R.sm,Jx R.nd,OW.trans S7,?_,?_⟩
        ·have:=R.lim;rw[de,iN];omega
        ·rw[R.eq,vM hA e,BV]
         congr 1
         funext z
         simp
    ·refine⟨_,rfl,qs acc ?_ fa H3 ue OT uf⟩
     rw[R.eq,vK (by simpa using hA)]
     show some (acc ++ [])=some acc;rw[gP]
end
theorem Cw {K:Frag}{a d p:Addr}{ps:List Str}{kvs:List (Key×V)}{g:Str->V}{H:Hp}{Q:VK} (ha:H a=some (.tup (ps.map V.str))) (hd:H d=some (.dK kvs)) (hg:∀x∈ps,cp kvs (Sum.inr x)=some (g x)) (hp:H p=none) (hs:ps.length<=100)
  (q:Q (.ref p) (upd H p (.lst (ps.map g)))):lx (xA K a) (tM 0) zW (DH (pG 1) (pG 0)) [none,some (.ref d)] Q p H:=by
 have yu:a≠p:=aq ha hp;have yv:d≠p:=aq hd hp;refine jK (xs:=ps.map V.str) (fun j zs τ H2=>∃t1:Option V,τ = [t1,some (.ref d)]/\zs=(ps.take j).map g/\H2=upd H p (.lst zs)) ⟨none,rfl,rfl,rfl⟩ (fun j zs τ H2 ⟨_,_,_,z⟩=>by rw[z];exact⟨ag,aG.of (by rw[ah yu];exact ha)⟩) ?_ ?_
 ·rintro j x zs τ H2 hx ⟨t1,rfl,rfl,rfl⟩
  have cg:j < (ps.map V.str).length:=(bU.mp hx).1;have iL:j < ps.length:=by simpa using cg
  obtain rfl:V.str ps[j]=x:=by simpa [iL] using hx
  have i9:ps.take (j+1)=ps.take j ++ [ps[j]]:=by rw[df,bH iL];rfl
  refine⟨_,rfl,_,rfl,d,g ps[j],rfl,?_,ag,?_,cw_next cg ⟨_,rfl,?_,by rw[iQ]⟩⟩
  ·rw[<-hg _ (jf iL)];exact ig.k (k:=Sum.inr ps[j]) (by rw[ah yv];exact hd)
  ·rw[ax,cK,aE];omega
  ·rw[i9,bc];rfl
 ·rintro zs τ H2 ⟨t1,rfl,rfl,rfl⟩
  rw[ax,du];exact q
theorem U' {K:Frag}{a d p:Addr}{ps:List Str}{kvs:List (Key×V)}{g:Str->V}{H:Hp}{Q:VK} (ha:H a=some (.lst (ps.map V.str))) (hd:H d=some (.dK kvs)) (hg:∀x∈ps,cp kvs (Sum.inr x)=some (g x)) (hp:H p=none) (hs:ps.length<=100)
  (q:Q (.ref p) (upd H p (.lst (ps.map g)))):lx (rE K a) (tM 0) zW (DH (pG 1) (pG 0)) [none,some (.ref d)] Q p H:=by
 have yu:a≠p:=aq ha hp;have yv:d≠p:=aq hd hp;refine gR (xs:=ps.map V.str) (fun j zs τ H2=>∃t1:Option V,τ = [t1,some (.ref d)]/\zs=(ps.take j).map g/\H2=upd H p (.lst zs)) ⟨none,rfl,rfl,rfl⟩ (fun j zs τ H2 ⟨_,_,_,z⟩=>by rw[z];exact⟨ag,ak.of (by rw[ah yu];exact ha)⟩) ?_ ?_
 ·rintro j x zs τ H2 hx ⟨t1,rfl,rfl,rfl⟩
  have cg:j < (ps.map V.str).length:=(bU.mp hx).1;have iL:j < ps.length:=by simpa using cg
  obtain rfl:V.str ps[j]=x:=by simpa [iL] using hx
  have i9:ps.take (j+1)=ps.take j ++ [ps[j]]:=by rw[df,bH iL];rfl
  refine⟨_,rfl,_,rfl,d,g ps[j],rfl,?_,ag,?_,cw_next cg ⟨_,rfl,?_,by rw[iQ]⟩⟩
  ·rw[<-hg _ (jf iL)];exact ig.k (k:=Sum.inr ps[j]) (by rw[ah yv];exact hd)
  ·rw[ax,cK,aE];omega
  ·rw[i9,bc];rfl
 ·rintro zs τ H2 ⟨t1,rfl,rfl,rfl⟩
  rw[ax,du];exact q
def rowsOf (L:Str->List Str) (ps:List Str):List (List Str):=ps.map L ++ [ps]
def lO (H:Hp) (kvs:List (Key×V)) (L:Str->List Str) (x:Str):Prop:= ∃a,cp kvs (Sum.inr x)=some (.ref a)/\H a=some (.tup ((L x).map V.str))
theorem lO.same {H H':Hp}{kvs:List (Key×V)}{L:Str->List Str}{x:Str} (h:lO H kvs L x) (s:ao H H'):lO H' kvs L x:=let ⟨a,e,q⟩:=h;⟨a,e,s _ _ q⟩
theorem WU {H:Hp}{kvs:List (Key×V)}{L:Str->List Str}{ps:List Str} (h:∀x∈ps,lO H kvs L x):∃g:Str->V,(∀x∈ps,cp kvs (Sum.inr x)=some (g x))/\dz H (ps.map g) (ps.map L):=by
 refine⟨fun x=>(cp kvs (Sum.inr x)).getD .aF,fun x hx=>?_,?_⟩
 ·obtain⟨a,e,_⟩:=h x hx;show _=some ((cp kvs (Sum.inr x)).getD V.aF);rw[e];rfl
 ·induction ps with
  |nil=>exact .nil
  |cons x ps ih =>
   obtain⟨a,e,q⟩:=h x aZ;exact .cons ⟨a,by show(cp kvs (Sum.inr x)).getD V.aF=_;rw[e];rfl,q⟩ (ih fun y hy=>h y (bJ _ hy))
section
variable{P:Program}{w:World}{K:Frag}{mg:Str->Option Value}{base:Heap}{f:Addr}{fd:FuncData}
theorem Cy:∀ {k:Nat}{rows:List (List Str)}{o:List Str},aW k rows=some o->o.length<=k
 |0,_,_,h=>by cases h;exact aO _
 |k+1,rows,o,h=>by
  unfold aW at h;split at h
  ·split at h
   ·cases h
   ·obtain⟨o',h',rfl⟩:=iD.mp h
    have:=Cy h';rw[d4];omega
  ·cases h;exact bG _
theorem Va {C t:Addr}{ws:List V}{rows:List (List Str)}{H:Hp}{Q:VK}{E:XK} (ht:H t=some (.tup ws)) (hR:dz H ws rows) (hS:Small rows)
  (qn:aW (total rows) rows=none -> ∀a d p vs H',H a=none->H d=none->H p=none->ly (mG rows) 10 (qU rows)->ao H H'->H' a=some (eU (some .none) C (some d) a)->H' d=some (d7 d [("kind",.aF),("ring",.ref p)])->H' p=some (.tup vs)->eZ H' vs (qU rows)->E (.ref C) (some a) H')
  (qs:∀o,aW (total rows) rows=some o -> ∀p H',H p=none->ao H H'->H' p=some (.tup (o.map V.str))->Q (.ref p) H'):sS C [.ref t] H Q E:=by
 unfold sS;exact⟨t,ws,rows,rfl,ht,hR,hS,qn,qs⟩
theorem V2 {B:Addr} (F:aX K "__init__" "Ring.__init__" pC f fd) (b:wt K B) (mB:mg "LineError" = some (.ref B)):wV P w K mg base 1 f fd ["self","kind","ring"] (mV K "kind" "ring"):=by
 refine F.okH LZ (fun vs H Q E h=>?_) (fun cdv A outer s H vs Q E hr h=>?_)
 ·unfold mV at h;obtain⟨a,C,k,r,i,rfl,_⟩:=h;rfl
 ·unfold mV at h
  obtain⟨a,C,k,r,i,rfl,ha,c,qi,fk,fr,nk,nr,q⟩:=h;have hu:=hr.units;have hg:=hr.gd;refine⟨_,aC (iR (Jb b rfl mB (af (pv 0) (af (Ld (oW lu (oW (zN hu hg (pv 1)) (oW lu (oW (zN hu hg (pv 2)) LQ))))) ai))))
   (aC (Le (pv 0) (pv 1)) (aM (Ko (pv 0) (pv 2)))),?_⟩
  refine⟨_,rfl,⟨_,rfl,by decide +kernel⟩,_,rfl,fk,fun y1 xK=>⟨⟨_,rfl,xK⟩,⟨_,rfl,by decide +kernel⟩,_,rfl,fr,fun y2 xM=>⟨⟨_,rfl,xM⟩,fun y hy=>?_⟩⟩⟩
  refine⟨a,C,none,_,i,rfl,ha,c,qi,?_⟩;refine⟨_,rfl,_,rfl,a,C,rfl,ha,c,nk,fun d hd nh=>?_⟩;refine⟨_,rfl,_,rfl,a,C,d,_,rfl,ag,(by rw[ah nh];exact ag),c,nr,(by show 1 < 100;decide),?_⟩
  refine q d _ hd nh ?_ ag fun b o e n=>?_
  ·rw[ah (aQ nh)];exact ag
  ·rw[ah (aq e hd)];exact KQ hd b o e n
theorem L4 {H:Hp}:∀ {vs:List V}{W:List Wi}{v:V},eZ H vs W->v∈vs -> ∃w∈W,∃a,v=V.ref a/\H a=some (.tup [.int w.1,.str w.2.1,.str w.2.2])
 |_,_,_,.nil,h=>by cases h
 |_,w::_,_,.cons a b,h=>by
  rcases a9.mp h with rfl|z
  ·exact⟨w,aZ,a⟩
  ·obtain⟨w2,h2,r⟩:=L4 b z
   exact⟨w2,bJ _ h2,r⟩
def pJ (C:Addr) (k:Str) (rows:List (List Str)) (H:Hp) (a:Addr):Prop:= ∃c C' d j4 p vs W,H a=some (eU (some (.ref c)) C (some d) a)/\H d=some (d7 d [("kind",.str k),("ring",.ref p)])/\H p=some (.tup vs)/\eZ H vs W/\ly (mG rows) 10 W/\c≠a/\H c=some (eU (some .none) C' j4 c)
@[irreducible] def ug (C:Addr):Sp:=fun vs H Q E=>∃ (d pa:Addr) (kvs:List (Key×V)) (L:Str->List Str) (k:Str) (ps:List Str),vs = [.ref d,.str k,.ref pa]/\H d=some (.dK kvs)/\H pa=some (.tup (ps.map V.str))/\(∀x∈ps,lO H kvs L x)/\Small (rowsOf L ps)/\Nm k /\
 (aW (total (rowsOf L ps)) (rowsOf L ps)=none -> ∀a H',H a=none->ao H H'->pJ C k (rowsOf L ps) H' a->E (.ref C) (some a) H') /\ ∀o,aW (total (rowsOf L ps)) (rowsOf L ps)=some o -> ∀p H',ao H H'->H' p=some (.tup ((k::o).map V.str))->Q (.ref p) H'
theorem YW {C d pa:Addr}{kvs:List (Key×V)}{L:Str->List Str}{k:Str}{ps:List Str}{H:Hp}{Q:VK}{E:XK} (hd:H d=some (.dK kvs)) (kU:H pa=some (.tup (ps.map V.str))) (hl:∀x∈ps,lO H kvs L x) (hS:Small (rowsOf L ps)) (hk:Nm k)
  (qn:aW (total (rowsOf L ps)) (rowsOf L ps)=none -> ∀a H',H a=none->ao H H'->pJ C k (rowsOf L ps) H' a->E (.ref C) (some a) H')
  (q:∀o,aW (total (rowsOf L ps)) (rowsOf L ps)=some o -> ∀p H',ao H H'->H' p=some (.tup ((k::o).map V.str))->Q (.ref p) H'):ug C [.ref d,.str k,.ref pa] H Q E:=by
 unfold ug;exact⟨d,pa,kvs,L,k,ps,rfl,hd,kU,hl,hS,hk,qn,q⟩
abbrev OX:List Str:= ["lines","kind","parents","rows","refusal"]
theorem Eo:b8 OX ["lines","kind","parents"] (aJ vR):=⟨rfl,rfl,rfl,by decide +kernel,rfl,by decide +kernel,by decide +kernel⟩
def Ep (e:Expr):Expr:=match e with|.BinOp a _ _ _=>a|_=>.Constant .none 0 ⟨0,0,0,0⟩
abbrev eLF:Expr:=Ep (eY (eK (cb (cu vR) 0)))
theorem Nd:bX OX (aJ vR) ["parent","lines"] [none,some 0] (cj eLF):=⟨rfl,by decide +kernel,by decide +kernel,rfl,cU (by decide +kernel),by decide +kernel⟩
theorem YX {B C fI fM:Addr}{qa u9:FuncData} (F:aX K "line_from" "line_from" vR f fd) (Bl:dJ mg) (T:DP K mg B C fI qa) (me:mroIn K C (.ref C)=some true) (GM:aH P w K mg base (eN P w) 3 fM u9 ["rows"] (sS C)) (kM:keepIn K (.ref fM)=true) (bM:Binds K u9 ["rows"] []) (mM:mg "merged" = some (.ref fM)) :
  aH P w K mg base (eN P w) 4 f fd ["lines","kind","parents"] (ug C):=by
 have GI:wV P w K mg base 1 fI qa ["self","kind","ring"] (mV K "kind" "ring"):=V2 T.F T.b T.mB;refine F.xT Eo (fun vs H Q E h=>?_) (fun cdv A outer s H vs Q E hr h=>?_)
 ·unfold ug at h;obtain⟨d,pa,kvs,L,k,ps,rfl,_⟩:=h;rfl
 ·unfold ug at h
  obtain⟨d,pa,kvs,L,k,ps,rfl,hd,kU,hl,hS,hk,qn,q⟩:=h;have hu:=hr.units;have eu:=qw (qx (show 1<=64 by decide) _) hu
  refine⟨_,aC (br (i:=3) Eo.nd rfl (Or.inl rfl) (cY jl rfl Bl.tuple boot_tuple (af (cG mE (dv rfl Nd (jN (pv 2)) (fun s H fp=>⟨aU (i:=0) Nd.nd rfl (Or.inl rfl),eF,lq eu (pv 1) (pv 0) (fun _ _=>rfl)⟩)) (c8 (af (pv 2) ai))) ai)))
   (aM (VA (j:=4) rfl (fun pins D=>aM (bg (cG Lj (kj (af (pv 1) ai)) (CN GM hr rfl mM kM bM (af (pv 3) ai))))) Eo.nd rfl rfl rfl T.mC T.q
    (fun a=>WB T.q T.fn T.kp GI ((hr.mono (by decide:2<=3)).marked _) T.bi bh rfl T.mC (af (pv 1) (af (Dd (pv 4)) ai))))),?_⟩
  obtain⟨g,hg,hR⟩:=WU hl;have cS:ps.length<=20:=hS.short ps (gk _ aZ);refine⟨_,rfl,pa,rfl,⟨_,aG.of kU⟩,fun c hc=>Cw kU hd hg hc (by omega) ?_⟩
  have S1:=ay (o:= .lst (ps.map g)) hc;refine⟨_,rfl,by show 1<=sizeLine;rw[aE];decide,fun c2 fG=>?_⟩
  have S2:=S1.trans (ay (o:= .lst [V.ref pa]) fG);refine⟨c,c2,_,_,rfl,rfl,by rw[ah (aq ag fG)];exact ag,ag,by rw[ax,aE];show _+1<=_;omega,fun c3 rX=>?_⟩
  have S3:=S2.trans (ay (o:= .lst (ps.map g ++ [V.ref pa])) rX);refine⟨c3,_,rfl,.inl ⟨ak.of ag,fun r hr=>?_⟩⟩;have S4:=S3.trans (ay (o:= .tup (ps.map g ++ [V.ref pa])) hr);refine⟨_,rfl,by show 1<=sizeLine;rw[aE];decide,fun c4 pT=>?_⟩
  have S5:=S4.trans (ay (o:= .tup [V.str k]) pT);refine⟨_,rfl,Va (rows:=rowsOf L ps) (by rw[ah (aq ag pT)];exact ag) (dz.append (hR.same S5) (S5 _ _ kU)) hS (fun hm a dd p vs H6 ha0 AB hp0 rp S6 A7 hd6 uY FZ=>?_) (fun o hm m H6 hm6 S6 h6=>?_)⟩
  ·have A8:=S5.trans S6
   refine⟨⟨C,rfl,me⟩,a,rfl,?_⟩;refine⟨_,rfl,_,rfl,a,some .none,C,dd,_,.ref p,rfl,A7,hd6,T.x,T.nr,rfl,by show 2<=100;decide,fun e he=>?_⟩
   have S7:=ay (o:=cf C none e) he;refine two_sp ag T.x T.q (.inl ⟨k,rfl,dU hk.hi (by decide)⟩) (Ju (S7 _ _ uY) (fun v hv=>?_) ?_) T.nk T.nr fun d2 H7 hd2 nd2 h7a OY kp=>⟨rfl,?_⟩
   ·obtain⟨w',hw',aw,ew,hw⟩:=L4 FZ hv
    obtain⟨pre,post,er,mp,_⟩:=rp.at_ w' hw';have yw:=gB er;refine⟨aw,w'.1,_,_,ew,S7 _ _ hw,gj (bU.mp er).1 hS.bw,hS.nm _ yw _ (gk _ aZ),hS.nm _ yw _ (gk _ (bJ _ mp))⟩
   ·rw[jF FZ];exact dU rp.bw (by decide)
   ·have yx:e≠a:=fun z=>by rw[z,A7]at he;cases he
    refine⟨e,C,some d2,some (.ref fI),C,some dd,rfl,h7a,fun d' ed=>by cases ed;exact⟨_,OY⟩,T.x,T.q,kp a _ (S7 _ _ A7) (aQ yx),yx,A8.free he,?_⟩
    have aaz:d2≠e:=nd2;refine qn hm e _ (A8.free he) (fun b o hb=>?_) ⟨a,C,d2,some dd,p,vs,qU (rowsOf L ps),ag,by rw[ah aaz];exact OY,?rp,?rw,rp,aQ yx,by rw[ah (aQ yx)];exact kp a _ (S7 _ _ A7) (aQ yx)⟩
    case rp=>exact(by have:=aq uY he;rw[ah this];exact kp p _ (S7 _ _ uY) this)
    case rw=>exact Paired.imp' (fun v w ⟨b,eb,hb⟩=>⟨b,eb,by have:=aq hb he;rw[ah this];exact kp b _ (S7 _ _ hb) this⟩) FZ
    have OZ:b≠e:=aq (A8 _ _ hb) he;rw[ah OZ];exact kp b o (S7 _ _ (A8 _ _ hb)) OZ
  ·have ol:o.length<=200:=dU (Cy hm) (dU (vJ hS.short) (by have:=hS.bw;omega))
   refine⟨c4,m,_,_,rfl,rfl,S6 _ _ ag,h6,by rw[ax,aE];show 1+_<=_;omega,fun p H7 S7 h7=>?_⟩
   exact q o hm p H7 (S5.trans (S6.trans S7)) h7
end
abbrev aI:=List (Str×List Str)
inductive bV (aa:aI):Str->List Str->Prop where
 |mk {k:Str}{ps:List Str}{L:Str->List Str}{o:List Str}:(k,ps)∈aa->(∀x∈ps,bV aa x (L x))->aW (total (rowsOf L ps)) (rowsOf L ps)=some o->bV aa k (k::o)
structure ck (aa:aI):Prop where
 nd:(aa.map (·.1)).Nodup
 bw:aa.length<=15
 nm:∀p∈aa,Nm p.1
 up:∀p∈aa,∀x∈p.2,∃q∈aa,q.1=x
 four:∀p∈aa,p.2.length<=4
 kY:∀p∈aa,p.2.Nodup
theorem ck.key {aa:aI} (s:ck aa) {k:Str}{ps qs:List Str} (h:(k,ps)∈aa) (h':(k,qs)∈aa):ps=qs:=by
 have nd:=s.nd;clear s
 induction aa with
 |nil=>cases h
 |cons p aa ih =>
  rw[cA,eP]at nd;have no:∀ {rs},(k,rs)∈aa->p.1≠k:=fun hm e=>nd.1 (e ▸ aS.mpr ⟨_,hm,rfl⟩);rcases a9.mp h with z|z
  ·rcases a9.mp h' with z'|z'
   ·rw[<-z']at z;exact(Prod.mk.inj z).2
   ·exact absurd (by rw[<-z]) (no z')
  ·rcases a9.mp h' with z'|z'
   ·exact absurd (by rw[<-z']) (no z)
   ·exact ih z z' nd.2
theorem sH {L L':Str->List Str}{ps:List Str} (h:∀x∈ps,L x=L' x):rowsOf L ps=rowsOf L' ps:=by
 unfold rowsOf;rw[y4 h]
theorem bV.uniq {aa:aI} (s:ck aa) {k:Str}{l:List Str} (h:bV aa k l):∀ {l'},bV aa k l'->l=l':=by
 induction h with
 |mk hm hx hg ih =>
  intro l' h';cases h' with
  |mk i6 d9 F0 =>
   have e:=s.key hm i6;subst e;have e:=sH fun x pZ=>ih x pZ (d9 x pZ);rw[e,F0]at hg;rw[gy hg]
theorem Kc:∀ {k:Nat}{rows:List (List Str)}{o:List Str},aW k rows=some o->o.Nodup /\ ∀x∈o,∃r∈rows,x∈r
 |0,_,_,h=>by cases h;exact⟨lY,fun x hx=>by cases hx⟩
 |k+1,rows,o,h=>by
  unfold aW at h;split at h
  ·split at h
   ·cases h
   ·rename_i n hn
    obtain⟨o',h',rfl⟩:=iD.mp h;obtain⟨nd,mem⟩:=Kc h';have Nf:∀x∈o',x≠n /\ ∃r∈rows,x∈r:=fun x hx=>by
     obtain⟨r,hr,ja⟩:=mem x hx;obtain⟨r0,rY,rfl⟩:=aS.mp hr;obtain⟨h1,h2⟩:=iC.mp ja;exact⟨by simpa using h2,r0,rY,h1⟩
    refine⟨eP.mpr ⟨fun z=>(Nf n z).1 rfl,nd⟩,fun x hx=>?_⟩;rcases a9.mp hx with rfl|z
    ·obtain⟨r,hr,e⟩:=y9 hn
     exact⟨r,hr,RV e⟩
    ·exact(Nf x z).2
  ·cases h;exact⟨lY,fun x hx=>by cases hx⟩
theorem WV {a b:List Str} (nd:a.Nodup) (h:∀x∈a,x∈b):a.length<=b.length:=DA nd h
theorem bV.mem {aa:aI} (s:ck aa) {k:Str}{l:List Str} (h:bV aa k l):(∀x∈l,x∈aa.map (·.1))/\l.length<=16:=by
 induction h with
 |mk hm hx hg ih =>
  rename_i k ps L o
  obtain⟨nd,mem⟩:=Kc hg;have iq:∀x∈o,x∈aa.map (·.1):=fun x hxo=>by
   obtain⟨r,hr,ja⟩:=mem x hxo;unfold rowsOf at hr;rcases fb.mp hr with z|z
   ·obtain⟨y,hy,rfl⟩:=aS.mp z
    exact(ih y hy).1 x ja
   ·rw[gn.mp z]at ja
    obtain⟨q,hq,e⟩:=s.up _ hm x ja;exact aS.mpr ⟨q,hq,e⟩
  have fl:=WV nd iq;have:=s.bw;rw[ax]at fl;refine⟨fun x hx=>?_,by rw[d4];omega⟩
  rcases a9.mp hx with rfl|z
  ·exact aS.mpr ⟨_,hm,rfl⟩
  ·exact iq x z
open Classical in
noncomputable def bo (aa:aI) (k:Str):List Str:=if h:∃l,bV aa k l then Classical.choose h else []
theorem bV.line {aa:aI} (s:ck aa) {k:Str}{l:List Str} (h:bV aa k l):bo aa k=l:=by
 unfold bo;rw[dif_pos ⟨l,h⟩];exact bV.uniq s (ah8 (⟨l,h⟩:∃l,bV aa k l)) h
def Ln (aa:aI) (k:Str):Prop:=bV aa k (bo aa k)
theorem bV.ln {aa:aI} (s:ck aa) {k:Str}{l:List Str} (h:bV aa k l):Ln aa k:=by unfold Ln;rw[h.line s];exact h
def tU (aa:aI) (k:Str):Prop:= ∃ps,(k,ps)∈aa/\(∀x∈ps,Ln aa x)/\aW (total (rowsOf (bo aa) ps)) (rowsOf (bo aa) ps)=none
theorem tU.no {aa:aI} (s:ck aa) {k:Str} (h:tU aa k) : ¬ Ln aa k:=by
 obtain⟨ps,hm,hx,hg⟩:=h;intro hl;unfold Ln at hl;cases e:bo aa k with
 |nil=>rw[e]at hl;cases hl
 |cons a b =>
  rw[e]at hl;cases hl with
  |mk i6 d9 F0 =>
   have e2:=s.key hm i6;subst e2;rw[sH (fun x pZ=>(d9 x pZ).line s),F0]at hg;cases hg
theorem YY {aa:aI} (s:ck aa) {k:Str}{ps o:List Str} (hm:(k,ps)∈aa) (hx:∀x∈ps,Ln aa x) (hg:aW (total (rowsOf (bo aa) ps)) (rowsOf (bo aa) ps)=some o):Ln aa k/\bo aa k=k::o:=by
 have h:bV aa k (k::o):= .mk hm hx hg;exact⟨h.ln s,h.line s⟩
def fg (aa:aI):Prop:= ∀p∈aa,Ln aa p.1
theorem Jy {aa:aI} (s:ck aa) {k:Str}{ps:List Str} (hm:(k,ps)∈aa) (hx:∀x∈ps,Ln aa x):Small (rowsOf (bo aa) ps):=by
 have f4:=s.four _ hm;have iq:∀r∈rowsOf (bo aa) ps,(∀x∈r,x∈aa.map (·.1))/\r.length<=20:=fun r hr=>by
  unfold rowsOf at hr;rcases fb.mp hr with z|z
  ·obtain⟨y,hy,rfl⟩:=aS.mp z
   obtain⟨h1,h2⟩:=bV.mem s (hx y hy);exact⟨h1,by omega⟩
  ·rw[gn.mp z]
   refine⟨fun x ja=>?_,by show ps.length<=20;have:ps.length<=4:=f4;omega⟩
   obtain⟨q,hq,e⟩:=s.up _ hm x ja;exact aS.mpr ⟨q,hq,e⟩
 refine⟨?_,fun r hr=>(iq r hr).2,fun r hr x hx=>?_⟩
 ·unfold rowsOf;rw[de,ax];show _+1<=10
  have:ps.length<=4:=f4;omega
 ·obtain⟨q,hq,rfl⟩:=aS.mp ((iq r hr).1 x hx)
  exact s.nm q hq
theorem closed {aa:aI} (s:ck aa) {D:Str->Prop}{B:Str->Prop} (hB:∀k,B k -> ¬ Ln aa k) (hc:∀p∈aa,(∀x∈p.2,D x)->D p.1\/B p.1):∀ {k:Str}{l:List Str},bV aa k l->D k:=by
 intro k l h
 induction h with
 |mk hm hx hg ih =>
  rcases hc _ hm ih with z|z
  ·exact z
  ·exact absurd ((bV.mk hm hx hg).ln s) (hB _ z)
theorem boot_all:bootBuiltins "all" = some (.builtin "all"):=by decide +kernel
theorem Jg {X:Cx} (K:Frag) (h:X.K=K) (hc:X.calm=true):dY X (.builtin "all") (fun xs H Q=>∃ (p:Addr) (bs:List Bool),xs = [.ref p]/\ak K H p (bs.map V.bl)/\Q (.bl (bs.all id)) H):=by subst h;exact qF hc
def bE (H:Hp) (vs:List V) (aa:List (Str×List Str)):Prop:=Paired (fun y p=>∃a b,y=V.ref a/\H a=some (.tup [.str p.1,.ref b])/\H b=some (.tup (p.2.map V.str))) vs aa
theorem bE.keep {H H':Hp}{vs:List V}{aa:List (Str×List Str)} (h:bE H vs aa) (s:∀b xs,H b=some (.tup xs)->H' b=some (.tup xs)):bE H' vs aa:=Paired.imp' (fun _ _ ⟨a,b,e,q,r⟩=>⟨a,b,e,s _ _ q,s _ _ r⟩) h
theorem bE.same {H H':Hp}{vs:List V}{aa:List (Str×List Str)} (h:bE H vs aa) (s:ao H H'):bE H' vs aa:=h.keep fun _ _ e=>s _ _ e
theorem bE.length {H:Hp}{vs:List V}{aa:List (Str×List Str)} (h:bE H vs aa):vs.length=aa.length:=jF h
theorem bE.append {H:Hp}{vs:List V}{aa:List (Str×List Str)}{a b:Addr}{p:Str×List Str}:bE H vs aa->H a=some (.tup [.str p.1,.ref b])->H b=some (.tup (p.2.map V.str))->bE H (vs ++ [.ref a]) (aa ++ [p])
 |.nil,q,r=>.cons ⟨a,b,rfl,q,r⟩ .nil
 |.cons x t,q,r=>.cons x (bE.append t q r)
theorem bE.pairs {H:Hp}{vs:List V}{aa:List (Str×List Str)} (h:bE H vs aa):∃kvs,wy H vs kvs/\kvs.map (·.1)=aa.map (·.1):=by
 induction h with
 |nil=>exact⟨[],.nil,rfl⟩
 |cons p _ ih =>
  obtain⟨a,b,e,q,r⟩:=p;obtain⟨kvs,h1,h2⟩:=ih;exact⟨(_,.ref b)::kvs,.cons ⟨a,e,q⟩ h1,by rw[cA,cA,h2]⟩
def isDone (kvs:List (Key×V)) (x:Str):Bool:=(cp kvs (Sum.inr x)).isSome
def iF (dn:Str->Bool) (rest:List (Str×List Str)):List (Str×List Str):=rest.filter fun p=>(p.2.map dn).all id
theorem Kd {dn:Str->Bool}{rest:List (Str×List Str)}{p:Str×List Str}:p∈iF dn rest ↔ p∈rest /\ ∀x∈p.2,dn x=true:=by
 unfold iF;rw[iC,List.all_map,oQ];rfl
theorem Jz {α:Type} (f:α->Bool):∀l:List α,(l.filter f).length+(l.filter fun x=>!f x).length=l.length
 |[]=>rfl
 |x::l=>by
  have ih:=Jz f l;cases h:f x <;> simp[RZ,h] <;> omega
theorem Vb {dn A9:Str->Bool}{rest:List (Str×List Str)} (h:∀p∈iF dn rest,A9 p.1=true):(rest.filter fun p=>!A9 p.1).length+(iF dn rest).length<=rest.length:=by
 have e:rest.length=(rest.filter fun p=>(p.2.map dn).all id).length+(rest.filter fun p=>!(p.2.map dn).all id).length:=by
  exact(Jz (fun p:Str×List Str=>(p.2.map dn).all id) rest).symm
 have le:(rest.filter fun p=>!A9 p.1).length<=(rest.filter fun p=>!(p.2.map dn).all id).length:=by
  rw[<-ail,<-ail];refine List.countP_mono_left fun p hp h1=>?_;cases z:(p.2.map dn).all id with
  |false=>rfl
  |true =>
   have:=h p (iC.mpr ⟨hp,z⟩);rw[this]at h1;cases h1
 unfold iF;omega
theorem V3 {K:Frag}{a d p:Addr}{ps:List Str}{kvs:List (Key×V)}{H:Hp}{Q:VK} (ha:H a=some (.tup (ps.map V.str))) (hd:H d=some (.dK kvs)) (hp:H p=none) (hs:ps.length<=100)
  (q:Q (.ref p) (upd H p (.lst ((ps.map (isDone kvs)).map V.bl)))):lx (xA K a) (tM 0) zW (MR (pG 0) (pG 1)) [none,some (.ref d)] Q p H:=by
 have yu:a≠p:=aq ha hp;have yv:d≠p:=aq hd hp;refine jK (xs:=ps.map V.str) (fun j zs τ H2=>∃t1:Option V,τ = [t1,some (.ref d)]/\zs=((ps.take j).map (isDone kvs)).map V.bl/\H2=upd H p (.lst zs)) ⟨none,rfl,rfl,rfl⟩ (fun j zs τ H2 ⟨_,_,_,z⟩=>by rw[z];exact⟨ag,aG.of (by rw[ah yu];exact ha)⟩) ?_ ?_
 ·rintro j x zs τ H2 hx ⟨t1,rfl,rfl,rfl⟩
  have cg:j < (ps.map V.str).length:=(bU.mp hx).1;have iL:j < ps.length:=by simpa using cg
  obtain rfl:V.str ps[j]=x:=by simpa [iL] using hx
  have i9:ps.take (j+1)=ps.take j ++ [ps[j]]:=by rw[df,bH iL];rfl
  refine⟨_,rfl,_,rfl,d,_,rfl,ig.k (k:=Sum.inr ps[j]) (by rw[ah yv];exact hd),ag,?_,cw_next cg ⟨_,rfl,?_,by rw[iQ]⟩⟩
  ·rw[ax,ax,cK,aE];omega
  ·rw[i9,bc,bc];rfl
 ·rintro zs τ H2 ⟨t1,rfl,rfl,rfl⟩
  rw[ax,du];exact q
def wZ (aa:List (Str×List Str)) (kvs:List (Key×V)):Prop:=(kvs.map (·.1)).Nodup /\ ∀k∈kvs.map (·.1),∃p∈aa,k=Sum.inr p.1
theorem Ke (kvs:List (Key×V)) (k:Key) (v:V):(k∈kvs.map (·.1)/\(putK kvs k v).map (·.1)=kvs.map (·.1))\/(k ∉ kvs.map (·.1)/\(putK kvs k v).map (·.1)=kvs.map (·.1) ++ [k]):=by
 have e:(kvs.any fun kv=>decide (kv.1=k))=true ↔ k∈kvs.map (·.1):=by
  rw[sg,aS];exact⟨fun⟨x,h,d⟩=>⟨x,h,yZ d⟩,fun⟨x,h,d⟩=>⟨x,h,gm d⟩⟩
 unfold putK
 by_cases h:k∈kvs.map (·.1)
 ·refine .inl ⟨h,?_⟩
  rw[aB (e.mpr h),ji];refine y4 fun kv _=>?_;show(if kv.1=k then (kv.1,v) else kv).1=kv.1;split <;> rfl
 ·refine .inr ⟨h,?_⟩
  rw[au fun z=>h (e.mp z),bc];rfl
theorem V4 {kvs:List (Key×V)}{k j:Key}{v:V}:j∈(putK kvs k v).map (·.1) ↔ j=k\/j∈kvs.map (·.1):=by
 rcases Ke kvs k v with⟨h,e⟩|⟨h,e⟩
 ·rw[e];exact⟨.inr,fun z=>z.elim (fun e=>e ▸ h) id⟩
 ·rw[e,fb,gn];exact Or.comm
theorem WW {kvs:List (Key×V)}{k:Key}{v:V} (h:(kvs.map (·.1)).Nodup):((putK kvs k v).map (·.1)).Nodup:=by
 rcases Ke kvs k v with⟨_,e⟩|⟨hn,e⟩
 ·rw[e];exact h
 ·rw[e,jg]
  exact⟨h,by simp,fun a ha b hb e=>hn (by rw[<-(gn.mp hb),<-e];exact ha)⟩
theorem wZ.put {aa:List (Str×List Str)}{kvs:List (Key×V)}{p:Str×List Str}{v:V} (h:wZ aa kvs) (hp:p∈aa):wZ aa (putK kvs (Sum.inr p.1) v):=by
 refine⟨WW h.1,fun k hk=>?_⟩;rcases V4.mp hk with z|z
 ·exact⟨p,hp,z⟩
 ·exact h.2 k z
theorem KS:∀ {kvs:List (Key×V)}{x:Str},isDone kvs x=true->Sum.inr x∈kvs.map (·.1)
 |[],x,h=>by cases h
 |(a,b)::kvs,x,h=>by
  by_cases e:a=Sum.inr x
  ·rw[e];exact aZ
  ·unfold isDone at h;rw[jm e]at h
   exact bJ _ (KS h)
theorem Um {α:Type}{a b:List α} (ha:a.Nodup) (hb:b.Nodup) (h:∀x,x∈a ↔ x∈b):a.Perm b:=(R7 ha hb).mpr h
theorem XY {l:List Str} (h:l.Nodup):(l.map (Sum.inr:Str->Key)).Nodup:=by
 induction l with
 |nil=>exact lY
 |cons x l ih =>
  rw[eP]at h;rw[cA,eP];refine⟨fun z=>?_,ih h.2⟩;obtain⟨y,hy,e⟩:=aS.mp z;exact h.1 (sd e ▸ hy)
theorem tV {α:Type} [DecidableEq α]:∀ {a b:List α},a.Nodup->(∀x∈a,x∈b)->a.length<=b.length
 |[],b,_,_=>bG _
 |x::a,b,nd,h=>by
  rw[eP]at nd;have hx:=h x aZ;have:=tV (b:=b.erase x) nd.2 fun y hy=>(Ra (fun e=>nd.1 (by rw[<-e];exact hy))).mpr (h y (bJ _ hy))
  rw[Q9 hx]at this;have:=Ib hx;rw[d4];omega
theorem XZ {α:Type} [DecidableEq α]:∀ {a b:List α},a.Nodup->(∀x∈a,x∈b)->b.length<=a.length -> ∀ {y:α},y∈b->y∈a:=by
 intro a b nd h hl y hy;refine aim fun hn=>?_;have:=tV (a:=y::a) (b:=b) (eP.mpr ⟨hn,nd⟩) fun x hx=>by
  rcases a9.mp hx with rfl|z
  ·exact hy
  ·exact h x z
 rw[d4]at this;omega
theorem KU:∀ {kvs:List (Key×V)}{x:Str},Sum.inr x∈kvs.map (·.1)->isDone kvs x=true
 |[],x,h=>by cases h
 |(a,b)::kvs,x,h=>by
  by_cases e:a=Sum.inr x
  ·unfold isDone;rw[jL e];rfl
  ·unfold isDone;rw[jm e]
   rcases a9.mp h with z|z
   ·exact absurd z.symm e
   ·exact KU z
def xo (aa:List (Str×List Str)):Prop:= ∀p∈aa,(∀x∈p.2,Ln aa x)->Ln aa p.1
structure xp (H:Hp) (aa:List (Str×List Str)) (t d:Addr) (m:Nat) (σ:St) (H1:Hp) (kvs:List (Key×V)) (rest:List (Str×List Str)) (wv:List V) (wa:Addr):Prop where
 st:∃v3 v4 v5:Option V,σ = [some (.ref t),some (.ref d),some (.ref wa),v3,v4,v5]
 mm:m=rest.length
 hd:H1 d=some (.dK kvs)
 hw:H1 wa=some (.lst wv)
 fv:bE H1 wv rest
 sub:∀p∈rest,p∈aa
 all:∀p∈aa,isDone kvs p.1=true\/p∈rest
 ln:∀x,isDone kvs x=true->lO H1 kvs (bo aa) x/\Ln aa x
 same:ao H H1
 lim:kvs.length+rest.length<=15
 ky:wZ aa kvs
section
variable{P:Program}{w:World}{K:Frag}{mg:Str->Option Value}{base:Heap}{f:Addr}{fd:FuncData}
@[irreducible] def oY (C:Addr):Sp:=fun vs H Q E=>∃ (t:Addr) (ws:List V) (aa:List (Str×List Str)),vs = [.ref t]/\H t=some (.tup ws)/\bE H ws aa/\ck aa /\
 (∀k' cJ,(k',cJ)∈aa->(∀x∈cJ,Ln aa x)->aW (total (rowsOf (bo aa) cJ)) (rowsOf (bo aa) cJ)=none -> ∀a H',ao H H'->pJ C k' (rowsOf (bo aa) cJ) H' a->E (.ref C) (some a) H') /\ ∀d kvs H',H d=none->ao H H'->H' d=some (.dK kvs)->xo aa->(fg aa -> ∀p∈aa,lO H' kvs (bo aa) p.1)->(kvs.length=aa.length ↔ fg aa)->Q (.ref d) H'
theorem CU {C t:Addr}{ws:List V}{aa:List (Str×List Str)}{H:Hp}{Q:VK}{E:XK} (ht:H t=some (.tup ws)) (hf:bE H ws aa) (ok:ck aa)
  (qn:∀k' cJ,(k',cJ)∈aa->(∀x∈cJ,Ln aa x)->aW (total (rowsOf (bo aa) cJ)) (rowsOf (bo aa) cJ)=none -> ∀a H',ao H H'->pJ C k' (rowsOf (bo aa) cJ) H' a->E (.ref C) (some a) H')
  (q:∀d kvs H',H d=none->ao H H'->H' d=some (.dK kvs)->xo aa->(fg aa -> ∀p∈aa,lO H' kvs (bo aa) p.1)->(kvs.length=aa.length ↔ fg aa)->Q (.ref d) H'):oY C [.ref t] H Q E:=by unfold oY;exact⟨t,ws,aa,rfl,ht,hf,ok,qn,q⟩
theorem CV {H:Hp}{aa:List (Str×List Str)}{t d:Addr}{m:Nat}{σ:St}{H1:Hp}{kvs:List (Key×V)}{rest:List (Str×List Str)}{wv:List V}{wa:Addr} (R:xp H aa t d m σ H1 kvs rest wv wa) (ok:ck aa) (no:∀p∈rest,¬ ∀x∈p.2,isDone kvs x=true) {x:Str} (h:Ln aa x):isDone kvs x=true:=by
 refine closed ok (D:=fun x=>isDone kvs x=true) (B:=fun _=>False) (fun _ z=>z.elim) (fun p hp hx=>?_) h;rcases R.all p hp with z|z
 ·exact .inl z
 ·exact absurd hx (no p z)
theorem LB {H:Hp}{aa:List (Str×List Str)}{t d:Addr}{m:Nat}{σ:St}{H1:Hp}{kvs:List (Key×V)}{rest:List (Str×List Str)}{wv:List V}{wa:Addr} (R:xp H aa t d m σ H1 kvs rest wv wa) (ok:ck aa) (no:∀p∈rest,¬ ∀x∈p.2,isDone kvs x=true):xo aa:=fun p hp hx=>by
 rcases R.all p hp with z|z
 ·exact(R.ln p.1 z).2
 ·exact absurd (fun x h=>CV R ok no (hx x h)) (no p z)
theorem LC {H:Hp}{aa:List (Str×List Str)}{t d:Addr}{m:Nat}{σ:St}{H1:Hp}{kvs:List (Key×V)}{rest:List (Str×List Str)}{wv:List V}{wa:Addr} (R:xp H aa t d m σ H1 kvs rest wv wa) (ok:ck aa) (no:∀p∈rest,¬ ∀x∈p.2,isDone kvs x=true):kvs.length=aa.length ↔ fg aa:=by
 have sub:(kvs.map (·.1)).length<=((aa.map (·.1)).map (Sum.inr:Str->Key)).length:=tV R.ky.1 fun k hk=>by
  obtain⟨p,hp,rfl⟩:=R.ky.2 k hk;exact aS.mpr ⟨p.1,aS.mpr ⟨p,hp,rfl⟩,rfl⟩
 have done:(∀p∈aa,isDone kvs p.1=true)->kvs.length=aa.length:=fun all=>by
  have le:((aa.map (·.1)).map (Sum.inr:Str->Key)).length<=(kvs.map (·.1)).length:=tV (XY ok.nd) fun k hk=>by
   obtain⟨y,hy,rfl⟩:=aS.mp hk;obtain⟨p,hp,rfl⟩:=aS.mp hy;exact KS (all p hp)
  simp only[ax]at le sub;omega
 constructor
 ·intro e p hp
  have c9:Sum.inr p.1∈kvs.map (·.1):=by
   refine XZ R.ky.1 (fun k hk=>?_) (by simp only[ax];omega) (aS.mpr ⟨p.1,aS.mpr ⟨p,hp,rfl⟩,rfl⟩:(Sum.inr p.1:Key)∈(aa.map (·.1)).map (Sum.inr:Str->Key))
   obtain⟨p,hp,rfl⟩:=R.ky.2 k hk;exact aS.mpr ⟨p.1,aS.mpr ⟨p,hp,rfl⟩,rfl⟩
  exact(R.ln p.1 (KU c9)).2
 ·intro all
  refine done fun p hp=>?_;refine closed ok (D:=fun x=>isDone kvs x=true) (B:=fun _=>False) (fun _ z=>z.elim) (fun p hp hx=>?_) (all p hp);rcases R.all p hp with z|z
  ·exact .inl z
  ·exact absurd hx (no p z)
abbrev F6:List Str:= ["family","lines","waiting","ready","kind","parents"]
theorem rm:b8 F6 ["family"] (aJ tF):=⟨rfl,rfl,rfl,by decide +kernel,rfl,by decide +kernel,by decide +kernel⟩
abbrev Ng:Stmt:=cb (cu tF) 2
abbrev Er:Expr:=eK (cb (vS Ng) 0)
abbrev aaA:Expr:=eY (DD Er)
abbrev aaB:Expr:=eK (cb (vS Ng) 3)
theorem Mp:bX F6 (aJ tF) ["pair","lines"] [none,some 1] (cj Er):=⟨rfl,by decide +kernel,by decide +kernel,rfl,cU (by decide +kernel),by decide +kernel⟩
theorem YZ {env:Env}:bX ["pair","lines"] (relabel (cj Er) env) ["parent","lines"] [none,some 1] (cj aaA):=nest rfl (by decide +kernel) (by decide +kernel) rfl (by decide +kernel) (by decide +kernel)
theorem Y0:(["parent","lines"]:List Str).Nodup:=by decide +kernel
theorem Mq:bX F6 (aJ tF) ["pair","lines"] [none,some 1] (cj aaB):=⟨rfl,by decide +kernel,by decide +kernel,rfl,cU (by decide +kernel),by decide +kernel⟩
theorem V5 {C fF:Addr}{O0:FuncData} (F:aX K "lines_of" "lines_of" tF f fd) (B:dJ mg) (GF:aH P w K mg base (eN P w) 4 fF O0 ["lines","kind","parents"] (ug C)) (kF:keepIn K (.ref fF)=true) (bF:Binds K O0 ["lines","kind","parents"] []) (mF:mg "line_from" = some (.ref fF)) :
  aH P w K mg base (eN P w) 5 f fd ["family"] (oY C):=by
 refine F.xT rm (fun vs H Q E h=>?_) (fun cdv A outer s H vs Q E hr h=>?_)
 ·unfold oY at h;obtain⟨t,ws,aa,rfl,_⟩:=h;rfl
 ·unfold oY at h
  obtain⟨t,ws,aa,rfl,ht,aaC,ok,qn,q⟩:=h;have hu:=hr.units;have eu:=qw (qx (show 1<=64 by decide) _) hu
  refine⟨_,aC (br (i:=1) rm.nd rfl (Or.inr rfl) CK)
   (aC (br (i:=2) rm.nd rfl (Or.inl rfl) (cY oU rfl B.list boot_list (af (pv 0) ai)))
   (aC (zt RY (sO (pv 2) (fun _=>rfl))
    (aC (qA rfl Mp rm.nd (i:=3) rfl rfl (gC (pv 2)) (fun s H fp=>⟨aU (i:=0) Mp.nd rfl (Or.inl rfl),
      lb (eG (a8 (Jg K rfl rfl) rfl B.all boot_all (af (dv rfl YZ (CI K rfl (cz (sQ K rfl) (pv 0) aN (fun _ _=>rfl))) (fun s H fp=>⟨aU (i:=0) Y0 rfl (Or.inl rfl),eF,LJ (LR eu (pv 0) (pv 1))⟩)) ai))),
      pv 0⟩))
    (aC (dj (fq (sO (pv 3) (fun _=>rfl))) (aM (bg (pv 1))) dh)
    (aC (jO RY rfl (gC (pv 3)) (pj rfl (eW (aU (i:=4) rm.nd rfl (Or.inl rfl)) (eW (aU (i:=5) rm.nd rfl (Or.inl rfl)) lj)))
     (aM (C7 eu (pv 1) (pv 4) (bf GF hr rfl mF kF bF .nil DI (af (pv 1) (af (pv 4) (af (pv 5) ai)))) rfl)))
    (aM (qA rfl Mq rm.nd (i:=2) rfl rfl (gC (pv 2)) (fun s H fp=>⟨aU (i:=0) Mq.nd rfl (Or.inl rfl),
      lb (Xo (UJ eu (cz (sQ K rfl) (pv 0) aN (fun _ _=>rfl)) (pv 1))),pv 0⟩)))))))
   (aM (bg (pv 1))))),?_⟩
  intro d hd;have Sd:=ay (o:= .dK []) hd;refine⟨_,rfl,t,ws,rfl,.inr (aG.of (Sd _ _ ht)),fun wa uX=>?_⟩;have Sw:=Sd.trans (ay (o:= .lst ws) uX);have nwd:d≠wa:=aq ag uX;refine⟨fun m σ H1=>∃kvs rest wv wa,xp H aa t d m σ H1 kvs rest wv wa,⟨_,[],aa,ws,wa,⟨none,none,none,rfl⟩,rfl,by rw[ah nwd];exact ag,ag,aaC.same Sw,fun _ h=>h,fun _ h=>.inr h,fun x h=>(by cases h),Sw,by have:=ok.bw;rw[yQ];omega,⟨lY,fun _ h=>(by cases h)⟩⟩,?_⟩
  rintro m σ H1 ⟨kvs,rest,wv,wa,R⟩;obtain⟨v3,v4,v5,rfl⟩:=R.st;have yy:=R.fv.length;refine⟨_,rfl,_,.inl ⟨_,ak.of R.hw,rfl⟩,?_⟩;refine iH (fun bx=>?_) (fun bx=>?_)
  ·refine⟨fun aD H'=>∃m',m' < m /\ ∃kvs rest wv wa,xp H aa t d m' aD H' kvs rest wv wa,fun _ _ z=>z,?_⟩
   refine⟨_,rfl,wa,rfl,⟨_,ak.of R.hw⟩,fun ra F9=>?_⟩;have O1:∀ {b:Addr}{u:HO},H b=some u->b≠d:=fun e=>aq e hd;have ndr:d≠ra:=aq R.hd F9;refine gR (xs:=wv) (fun i ys τ H3=>∃t0:Option V,τ = [t0,some (.ref d)]/\H3 ra=some (.lst ys)/\ao H1 H3/\bE H3 ys (iF (isDone kvs) (rest.take i))) ⟨none,rfl,ag,ay F9,.nil⟩ (fun i ys τ H3 ⟨_,_,z1,z2,_⟩=>⟨z1,ak.of (z2 _ _ R.hw)⟩) ?_ ?_
   ·rintro i x ys τ H3 hx ⟨t0,rfl,h3,S3,F3⟩
    have aP:i < wv.length:=(bU.mp hx).1;obtain⟨p,hp,a,b,rfl,ha,hb⟩:=lr R.fv hx;have tk:rest.take (i+1)=rest.take i ++ [p]:=by rw[df,hp];rfl
    have Ba:=R.sub p (gB hp);have cS:p.2.length<=20:=dU (ok.four p Ba) (by decide)
    have qd:=S3 _ _ ha;have oB:=S3 _ _ hb;refine⟨_,rfl,a,_,1,.ref b,rfl,rfl,aG.of qd,(show cI [V.str p.1,V.ref b] ((1:Nat):Int)=some (.ref b) from eT rfl),?_⟩;refine⟨b,rfl,⟨_,aG.of oB⟩,fun c hc=>V3 oB (S3 _ _ R.hd) hc (by omega) ?_⟩
    have Sc:=ay (o:= .lst ((p.2.map (isDone kvs)).map V.bl)) hc;refine⟨c,_,rfl,ak.of ag,_,rfl,?_⟩;refine iH (fun AD=>?_) (fun AD=>?_)
    ·refine⟨_,rfl,Sc _ _ h3,?_,cw_next aP ⟨_,rfl,ag,fun b o hb=>by rw[ah (aq hb F9)];exact Sc _ _ (S3 b o hb),?_⟩⟩
     ·have h1:=F3.length
      have h2:(iF (isDone kvs) (rest.take i)).length<=(rest.take i).length:=jk _ _;have h3:=R.lim;rw[cK]at h2;rw[aE];omega
     ·have e1:iF (isDone kvs) (rest.take (i+1))=iF (isDone kvs) (rest.take i) ++ [p]:=by
       rw[tk];unfold iF;rw[kh,su (by exact AD)];rfl
      rw[e1];refine bE.append (F3.keep fun b xs hb=>?_) ?_ ?_ (b:=b)
      ·rw[ah (bY hb h3 (by intro z;cases z))];exact Sc _ _ hb
      ·rw[ah (bY qd h3 (by intro z;cases z))];exact Sc _ _ qd
      ·rw[ah (bY oB h3 (by intro z;cases z))];exact Sc _ _ oB
    ·refine cw_next aP ⟨_,rfl,Sc _ _ h3,S3.trans Sc,?_⟩
     have e1:iF (isDone kvs) (rest.take (i+1))=iF (isDone kvs) (rest.take i):=by
      rw[tk];unfold iF;rw[kh,vF (by exact AD)];simp
     rw[e1];exact F3.same Sc
   ·rintro rv τ H3 ⟨t0,rfl,h3,S3,F3⟩
    rw[yy,du]at F3;have j7:=F3.length;have qb:=S3 _ _ R.hd;have O2:=S3 _ _ R.hw;have gI:bE H3 wv rest:=R.fv.same S3;have mZ:rest ≠ []:=fun z=>by
     rw[z]at yy;have:wv = []:=vA yy;rw[this]at bx;cases bx
    generalize uG:iF (isDone kvs) rest=ready at F3 j7;refine⟨_,rfl,_,.inl ⟨_,ak.of h3,rfl⟩,?_⟩
    by_cases Ga:ready = []
    ·have e:rv = []:=vA (by rw[j7,Ga];rfl)
     rw[e];have no:∀p∈rest,¬ ∀x∈p.2,isDone kvs x=true:=fun p hp hx=>?no;exact⟨_,rfl,q d kvs H3 hd (R.same.trans S3) qb (LB R ok no) (fun al p hp=>(R.ln _ (CV R ok no (al p hp))).1.same S3) (LC R ok no)⟩;have:p∈iF (isDone kvs) rest:=Kd.mpr ⟨hp,hx⟩;rw[uG,Ga]at this;cases this
    obtain⟨p0,rY⟩:=List.exists_mem_of_ne_nil _ Ga;have aaD:(!rv.isEmpty)=true:=by
     cases rv with
     |nil =>
      have:ready = []:=vA j7.symm;rw[this]at rY;cases rY
     |cons _ _=>rfl
    rw[aaD];refine⟨_,rfl,ra,rfl,⟨_,ak.of h3⟩,CD (xs:=rv) (fun i σ H4=>∃ (eJ:List (Key×V)) (v4 v5:Option V),σ = [some (.ref t),some (.ref d),some (.ref wa),some (.ref ra),v4,v5]/\H4 d=some (.dK eJ)/\eJ.length<=kvs.length+i /\
     (∀b u,b≠d->H3 b=some u->H4 b=some u)/\(∀x,isDone eJ x=true->lO H4 eJ (bo aa) x/\Ln aa x)/\(∀x,isDone kvs x=true->isDone eJ x=true)/\(∀p∈ready.take i,isDone eJ p.1=true)/\wZ aa eJ)
     ⟨kvs,v4,v5,rfl,qb,aO _,fun _ _ _ e=>e,fun x hx=>⟨(R.ln x hx).1.same S3,(R.ln x hx).2⟩,fun _ h=>h,fun p hp=>(by cases hp),R.ky⟩ (fun i σ H4 _ ⟨_,_,_,_,_,_,z,_⟩=>ak.of (z _ _ (aQ ndr) h3)) ?_ ?_⟩
    ·rintro i x σ H4 hx ⟨eJ,v4,v5,rfl,qf,rW,kX,vb,iy,Bb,Gb⟩
     have aP:i < rv.length:=(bU.mp hx).1;obtain⟨p,hp,a,b,rfl,ha,hb⟩:=lr F3 hx;have tk:ready.take (i+1)=ready.take i ++ [p]:=by rw[df,hp];rfl
     have AZ:p∈iF (isDone kvs) rest:=by rw[uG];exact gB hp
     obtain⟨Ba,u6⟩:=Kd.mp AZ;have gg:=R.sub p Ba;have Gd:∀x∈p.2,Ln aa x:=fun x hx=>(vb x (iy x (u6 x hx))).2;have rT:=Jy ok (k:=p.1) (ps:=p.2) gg Gd;have aaE:ao H H4:=fun b u e=>kX b u (O1 e) (S3 _ _ (R.same b u e));have ha4:=kX _ _ (bY ha qb (by intro z;cases z)) ha
     have hb4:=kX _ _ (bY hb qb (by intro z;cases z)) hb
     refine⟨a,_,rfl,aG.of ha4,rfl,_,_,rfl,_,_,rfl,rfl,?_⟩;refine⟨_,rfl,_,rfl,_,rfl,YW (L:=bo aa) qf hb4 (fun x hx=>(vb x (iy x (u6 x hx))).1) rT (ok.nm p gg) (fun hg a H5 ha0 S5 h5=>qn p.1 p.2 gg Gd hg a H5 (aaE.trans S5) h5) fun oo rJ q5 H5 S5 h5=>?_⟩;obtain⟨Ge,hL⟩:=YY ok (k:=p.1) (ps:=p.2) gg Gd rJ;refine⟨_,rfl,_,rfl,d,_,rfl,rg.k (k:=Sum.inr p.1) (S5 _ _ qf) ?_,?_⟩
     ·have h1:=R.lim
      have h2:ready.length<=rest.length:=by rw[<-uG];exact jk _ _
      rw[aE];omega
     ·have nq:q5≠d:=bY h5 (S5 _ _ qf) (by intro z;cases z)
      refine⟨_,_,_,rfl,ag,?_,fun b u nb e=>?_,fun x hx=>?_,fun x hx=>?_,fun y hy=>?_,Gb.put (R.sub p Ba)⟩
      ·have:=B6 eJ (Sum.inr p.1) (V.ref q5);omega
      ·rw[ah nb];exact S5 _ _ (kX b u nb e)
      ·unfold lO
       rw[vV]
       by_cases e:x=p.1
       ·subst e
        refine⟨⟨q5,by rw[aB rfl],?_⟩,Ge⟩
        rw[ah nq,hL];exact h5
       ·have e2 : ¬ ((Sum.inr x:Key)=Sum.inr p.1):=fun z=>e (sd z)
        have d9:isDone eJ x=true:=by unfold isDone at hx ⊢;rw[vV,au e2]at hx;exact hx
        obtain⟨⟨a',ea,O3⟩,xS⟩:=vb x d9;refine⟨⟨a',by rw[au e2];exact ea,?_⟩,xS⟩
        rw[ah (bY O3 qf (by intro z;cases z))];exact S5 _ _ O3
      ·unfold isDone;rw[vV]
       split
       ·rfl
       ·exact iy x hx
      ·unfold isDone;rw[vV]
       split
       ·rfl
       ·rename_i hn
        rw[tk]at hy;rcases fb.mp hy with z|z
        ·exact Bb _ z
        ·have:y=p:=by simpa using z
         exact absurd (by rw[this]) hn
    ·rintro σ H4 ⟨eJ,v4,v5,rfl,qf,rW,kX,vb,iy,Bb,Gb⟩
     rw[j7,du]at Bb;have hf4:bE H4 wv rest:=gI.keep fun b xs e=>kX _ _ (bY e qb (by intro z;cases z)) e
     have O4:=kX _ _ (bY O2 qb (by intro z;cases z)) O2
     have SH4:ao H H4:=fun b u e=>kX b u (O1 e) (S3 _ _ (R.same b u e));refine⟨_,rfl,wa,rfl,⟨_,ak.of O4⟩,fun wb Gf=>?_⟩;have nwb:d≠wb:=aq qf Gf;refine gR (xs:=wv) (fun i ys τ H5=>∃t0:Option V,τ = [t0,some (.ref d)]/\H5 wb=some (.lst ys)/\ao H4 H5/\bE H5 ys ((rest.take i).filter fun p=>!isDone eJ p.1)) ⟨none,rfl,ag,ay Gf,.nil⟩ (fun i ys τ H5 ⟨_,_,z1,z2,_⟩=>⟨z1,ak.of (z2 _ _ O4)⟩) ?_ ?_
     ·rintro i x ys τ H5 hx ⟨t0,rfl,h5,S5,F5⟩
      have aP:i < wv.length:=(bU.mp hx).1;obtain⟨p,hp,a,b,rfl,ha,hb⟩:=lr hf4 hx;have tk:rest.take (i+1)=rest.take i ++ [p]:=by rw[df,hp];rfl
      have Gg:=S5 _ _ ha;have O5:=S5 _ _ hb;refine⟨_,rfl,a,_,0,.str p.1,rfl,rfl,aG.of Gg,(show cI [V.str p.1,V.ref b] ((0:Nat):Int)=some (.str p.1) from eT rfl),?_⟩;refine⟨_,rfl,d,_,rfl,ig.k (k:=Sum.inr p.1) (S5 _ _ qf),_,rfl,?_⟩;refine iH (fun c9=>?_) (fun c9=>?_)
      ·refine⟨_,rfl,h5,?_,cw_next aP ⟨_,rfl,ag,fun b o hb=>by rw[ah (aq hb Gf)];exact S5 b o hb,?_⟩⟩
       ·have h1:=F5.length
        have h2:=jk (fun p:Str×List Str=>!isDone eJ p.1) (rest.take i);have h3:=R.lim;rw[cK]at h2;rw[aE];omega
       ·rw[tk,kh,su (by exact c9)]
        refine bE.append (F5.keep fun b xs hb=>?_) ?_ ?_ (b:=b)
        ·rw[ah (bY hb h5 (by intro z;cases z))];exact hb
        ·rw[ah (bY Gg h5 (by intro z;cases z))];exact Gg
        ·rw[ah (bY O5 h5 (by intro z;cases z))];exact O5
      ·refine cw_next aP ⟨_,rfl,h5,S5,?_⟩
       rw[tk,kh,vF (by exact c9),List.filter_nil,gP]
       exact F5
     ·rintro ys τ H5 ⟨t0,rfl,h5,S5,F5⟩
      rw[yy,du]at F5;have less:=Vb (dn:=isDone kvs) (A9:=isDone eJ) (rest:=rest) (by rw[uG];exact Bb)
      rw[uG]at less;have hrp:0 < ready.length:=Ib rY;refine⟨_,by rw[R.mm];omega,eJ,rest.filter fun p=>!isDone eJ p.1,ys,wb,⟨_,_,_,rfl⟩,rfl,S5 _ _ qf,h5,F5,fun p hp=>R.sub p (iC.mp hp).1,fun p hp=>?_,fun x hx=>⟨(vb x hx).1.same S5,(vb x hx).2⟩,SH4.trans S5,?_,?_⟩
      ·cases e:isDone eJ p.1 with
       |true=>exact .inl rfl
       |false =>
        refine .inr ?_;rcases R.all p hp with z|z
        ·rw[iy _ z]at e;cases e
        ·exact iC.mpr ⟨z,by rw[e];rfl⟩
      ·have h1:=R.lim
       omega
      ·exact Gb
  ·have hn:rest = []:=by
    cases wv with
    |nil=>exact vA yy.symm
    |cons _ _=>exact absurd rfl bx
   have no:∀p∈rest,¬ ∀x∈p.2,isDone kvs x=true:=fun p hp=>by rw[hn]at hp;cases hp
   exact⟨_,rfl,q d kvs H1 hd R.same R.hd (LB R ok no) (fun al p hp=>(R.ln _ (CV R ok no (al p hp))).1) (LC R ok no)⟩
end
structure gr (mg:Str->Option Value):Prop where
 j8:mg "isinstance" = none
 str:mg "str" = none
 dict:mg "dict" = none
 sorted:mg "sorted" = none
theorem jM:bootBuiltins "isinstance" = some (.builtin "isinstance"):=by decide +kernel
theorem boot_str:bootBuiltins "str" = some (.type "str"):=by decide +kernel
theorem boot_dict:bootBuiltins "dict" = some (.type "dict"):=by decide +kernel
theorem boot_sorted:bootBuiltins "sorted" = some (.builtin "sorted"):=by decide +kernel
def fV (H:Hp) (kvs:List (Key×V)) (L:Str->List Str) (x:Str):Prop:= ∃a,cp kvs (Sum.inr x)=some (.ref a)/\H a=some (.lst ((L x).map V.str))
theorem fV.same {H H':Hp}{kvs:List (Key×V)}{L:Str->List Str}{x:Str} (h:fV H kvs L x) (s:ao H H'):fV H' kvs L x:=let ⟨a,e,q⟩:=h;⟨a,e,s _ _ q⟩
theorem WX {H:Hp}{kvs:List (Key×V)}{L:Str->List Str}{ps:List Str} (h:∀x∈ps,fV H kvs L x):∃g:Str->V,(∀x∈ps,cp kvs (Sum.inr x)=some (g x))/\eX (fun _=>True) H (ps.map g) (ps.map L):=by
 refine⟨fun x=>(cp kvs (Sum.inr x)).getD .aF,fun x hx=>?_,?_⟩
 ·obtain⟨a,e,_⟩:=h x hx;show _=some ((cp kvs (Sum.inr x)).getD V.aF);rw[e];rfl
 ·induction ps with
  |nil=>exact .nil
  |cons x ps ih =>
   obtain⟨a,e,q⟩:=h x aZ;exact .cons ⟨a,by show(cp kvs (Sum.inr x)).getD V.aF=_;rw[e];rfl,trivial,q⟩ (ih fun y hy=>h y (bJ _ hy))
section
variable{P:Program}{w:World}{K:Frag}{mg:Str->Option Value}{base:Heap}{f:Addr}{fd:FuncData}
theorem DR {l:Addr}{ws:List V}{rows:List (List Str)}{H:Hp}{Q:VK}{E:XK} (hl:H l=some (.lst ws)) (hR:eX (fun _=>True) H ws rows) (hS:Small rows) (fU:∀r∈rows,r.Nodup) (qn:aW (total rows) rows=none -> ∀H',ao H H'->Q .aF H')
  (qs:∀o,aW (total rows) rows=some o -> ∀p H',H p=none->ao H H'->H' p=some (.lst (o.map V.str))->Q (.ref p) H'):rh [.ref l] H Q E:=by unfold rh;exact⟨l,ws,rows,rfl,hl,hR,hS,fU,qn,qs⟩
@[irreducible] def uh:Sp:=fun vs H Q _=>∃ (d oa:Addr) (kvs:List (Key×V)) (L:Str->List Str) (k:Str) (own:List Str),vs = [.ref d,.str k,.ref oa]/\H d=some (.dK kvs)/\H oa=some (.lst (own.map V.str))/\(∀x∈own,fV H kvs L x)/\Small (rowsOf L own)/\(∀r∈rowsOf L own,r.Nodup) /\
 (aW (total (rowsOf L own)) (rowsOf L own)=none -> ∀H',ao H H'->Q .aF H')/\(∀o,aW (total (rowsOf L own)) (rowsOf L own)=some o -> ∀p H',H p=none->ao H H'->H' p=some (.lst ((k::o).map V.str))->Q (.ref p) H')
theorem Mr {d oa:Addr}{kvs:List (Key×V)}{L:Str->List Str}{k:Str}{own:List Str}{H:Hp}{Q:VK}{E:XK} (hd:H d=some (.dK kvs)) (ho:H oa=some (.lst (own.map V.str))) (hl:∀x∈own,fV H kvs L x) (hS:Small (rowsOf L own)) (fU:∀r∈rowsOf L own,r.Nodup)
  (qn:aW (total (rowsOf L own)) (rowsOf L own)=none -> ∀H',ao H H'->Q .aF H') (qs:∀o,aW (total (rowsOf L own)) (rowsOf L own)=some o -> ∀p H',H p=none->ao H H'->H' p=some (.lst ((k::o).map V.str))->Q (.ref p) H') :
  uh [.ref d,.str k,.ref oa] H Q E:=by unfold uh;exact⟨d,oa,kvs,L,k,own,rfl,hd,ho,hl,hS,fU,qn,qs⟩
abbrev O6:List Str:= ["_law_lines","_law_kind","_law_own","_law_found"]
theorem Nh:b8 O6 ["_law_lines","_law_kind","_law_own"] (aJ wC):=⟨rfl,rfl,rfl,by decide +kernel,rfl,by decide +kernel,by decide +kernel⟩
abbrev eLL:Expr:=Ep (eY (eK (cb (cu wC) 0)))
theorem Ni:bX O6 (aJ wC) ["_law_one","_law_lines"] [none,some 0] (cj eLL):=⟨rfl,by decide +kernel,by decide +kernel,rfl,cU (by decide +kernel),by decide +kernel⟩
theorem Y1 {fM:Addr}{u9:FuncData} (F:aX K "_law_line" "_law_line" wC f fd) (B:dJ mg) (FM:aX K "_law_merged" "_law_merged" mn fM u9) (bM:Binds K u9 ["_law_rows"] []) (mM:mg "_law_merged" = some (.ref fM)) :
  aH P w K mg base aK 2 f fd ["_law_lines","_law_kind","_law_own"] uh:=by
 have GM:aH P w K mg base aK 1 fM u9 ["_law_rows"] rh:=Mo FM B;refine F.ok Nh (fun vs H Q E h=>?_) (fun cdv A outer s H vs Q E hr h=>?_)
 ·unfold uh at h;obtain⟨d,oa,kvs,L,k,own,rfl,_⟩:=h;rfl
 ·unfold uh at h
  obtain⟨d,oa,kvs,L,k,own,rfl,hd,ho,hl,hS,fU,qn,qs⟩:=h;have hu:=hr.units;have eu:=qw (qx (show 1<=64 by decide) _) hu
  refine⟨_,aC (br (i:=3) Nh.nd rfl (Or.inl rfl) (bf GM hr rfl mM FM.kp bM .nil bh (af (cG mE (dv rfl Ni (gC (pv 2)) (fun s H fp=>⟨aU (i:=0) Ni.nd rfl (Or.inl rfl),eF,lq eu (pv 1) (pv 0) (fun _ _=>rfl)⟩)) (c8 (af (cY oU rfl B.list boot_list (af (pv 2) ai)) ai))) ai)))
   (aC (dj (d5 zK (pv 3) jr (cZ _)) (aM (bg jr)) dh)
   (aM (bg (cG mE (c8 (af (pv 1) ai)) (pv 3))))),?_⟩
  obtain⟨g,hg,hR⟩:=WX hl;have cS:own.length<=20:=hS.short own (gk _ aZ);refine⟨_,rfl,oa,rfl,⟨_,ak.of ho⟩,fun c hc=>U' ho hd hg hc (by omega) ?_⟩
  have S1:=ay (o:= .lst (own.map g)) hc;refine⟨_,rfl,oa,_,rfl,.inl (ak.of (S1 _ _ ho)),fun c1 vd=>?_⟩;have S2:=S1.trans (ay (o:= .lst (own.map V.str)) vd);refine⟨by show 1<=sizeLine;rw[aE];decide,fun c2 fG=>?_⟩
  have S3:=S2.trans (ay (o:= .lst [V.ref c1]) fG);have k1:upd (upd H c (.lst (own.map g))) c1 (.lst (own.map V.str)) c=some (.lst (own.map g)):=by rw[ah (aq ag vd)];exact ag
  refine⟨c,c2,_,_,rfl,rfl,by rw[ah (aq k1 fG)];exact k1,ag,by rw[ax,aE];show _+1<=_;omega,fun c3 rX=>?_⟩
  have S4:=S3.trans (ay (o:= .lst (own.map g ++ [V.ref c1])) rX);have k4:upd (upd (upd (upd H c (.lst (own.map g))) c1 (.lst (own.map V.str))) c2 (.lst [V.ref c1])) c3 (.lst (own.map g ++ [V.ref c1])) c1=some (.lst (own.map V.str)):=by
   have k2:upd (upd (upd H c (.lst (own.map g))) c1 (.lst (own.map V.str))) c2 (.lst [V.ref c1]) c1=some (.lst (own.map V.str)):=by rw[ah (aq ag fG)];exact ag
   rw[ah (aq k2 rX)];exact k2
  refine DR (rows:=rowsOf L own) ag (sE (iP hR fun a xs _ e=>⟨trivial,S4 _ _ e⟩) trivial k4) hS fU (fun e H5 S5=>?_) (fun o e p H5 hp S5 h5=>?_)
  ·exact⟨_,rfl,rfl,_,rfl,qn e H5 (S4.trans S5)⟩
  ·refine⟨_,rfl,rfl,_,rfl,?_⟩
   refine⟨_,rfl,by show 1<=sizeLine;rw[aE];decide,fun c5 Bd=>?_⟩
   have S6:=S5.trans (ay (o:= .lst [V.str k]) Bd);have hz:=(Cy e);have ht:=vJ hS.short;have hfw:=hS.bw;refine⟨_,rfl,c5,p,_,_,rfl,rfl,ag,by rw[ah (aq h5 Bd)];exact h5,by rw[ax,aE];show 1+_<=_;omega,fun c6 Be=>?_⟩
   exact qs o e c6 _ (S4.free (S6.free Be)) (S4.trans (S6.trans (ay Be))) ag
end
theorem Ce {α:Type}:∀ (l:List α) (k:Nat) (h:k < l.length),(l[k]::l.eraseIdx k).Perm l
 |[],k,h=>absurd h (yX _)
 |x::l,0,_=>oS _
 |x::l,k+1,h=>(List.Perm.swap _ _ _).trans ((Ce l k (Io h)).cons x)
theorem Cz {α β:Type} (f:α->β):∀ (l:List α) (k:Nat),(l.map f).eraseIdx k=(l.eraseIdx k).map f
 |[],_=>rfl
 |_::_,0=>rfl
 |x::l,k+1=>eO (f x :: ·) (Cz f l k)
theorem boot_min:bootBuiltins "min" = some (.builtin "min"):=by decide +kernel
theorem Y2 {d:Int} (h0:0<=d) (h1:d < 7):∃v:Int,cI [V.int 0,.int 1,.int 1,.int 2,.int 2,.int 3,.int 4] d=some (.int v)/\0<=v/\v<=4:=by
 obtain⟨n,rfl⟩:=IH h0
 match n,(show n < 7 by omega) with
 |0,_=>exact⟨0,eT rfl,by decide,by decide⟩
 |1,_=>exact⟨1,eT rfl,by decide,by decide⟩
 |2,_=>exact⟨1,eT rfl,by decide,by decide⟩
 |3,_=>exact⟨2,eT rfl,by decide,by decide⟩
 |4,_=>exact⟨2,eT rfl,by decide,by decide⟩
 |5,_=>exact⟨3,eT rfl,by decide,by decide⟩
 |6,_=>exact⟨4,eT rfl,by decide,by decide⟩
theorem two_at {d a b m:Int} (h0:0<=d) (h1:d < 2) (ha:0<=a/\a < m) (hb:0<=b/\b < m):∃v:Int,cI [V.int a,.int b] d=some (.int v)/\0<=v/\v < m:=by
 obtain⟨n,rfl⟩:=IH h0
 match n,(show n < 2 by omega) with
 |0,_=>exact⟨a,eT rfl,ha⟩
 |1,_=>exact⟨b,eT rfl,hb⟩
section
variable{P:Program}{w:World}{K:Frag}{mg:Str->Option Value}{base:Heap}{f:Addr}{fd:FuncData}
@[irreducible] def tW:Sp:=fun vs H Q _=>∃ (p n:Addr) (ys:List Str),vs = [.ref p,.ref n]/\dZ p H/\p≠n/\H n=some (.lst (ys.map V.str))/\ys.length<=20 /\
 ∀ (l:Addr) (own rest:List Str) (H':Hp),H l=none->(own++rest).Perm ys->own.length<=4->bp p H H'->H' l=some (.lst (own.map V.str))->Q (.ref l) H'
theorem X0 {p n:Addr}{ys:List Str}{H:Hp}{Q:VK}{E:XK} (hp:dZ p H) (O7:p≠n) (hn:H n=some (.lst (ys.map V.str))) (hl:ys.length<=20)
  (q:∀ (l:Addr) (own rest:List Str) (H':Hp),H l=none->(own++rest).Perm ys->own.length<=4->bp p H H'->H' l=some (.lst (own.map V.str))->Q (.ref l) H'):tW [.ref p,.ref n] H Q E:=by
 unfold tW;exact⟨p,n,ys,rfl,hp,O7,hn,hl,q⟩
abbrev aaF:List Str:= ["_law_pot_here","_law_made","_law_left","_law_own","_law_turn","_law_at"]
theorem w4:b8 aaF ["_law_pot_here","_law_made"] (aJ Cu):=⟨rfl,rfl,rfl,by decide +kernel,rfl,by decide +kernel,by decide +kernel⟩
theorem X1 {fD:Addr}{rV:FuncData} (F:aX K "_law_parents" "_law_parents" Cu f fd) (B:dJ mg) (FD:aX K "_law_digit" "_law_digit" wB fD rV) (bD:Binds K rV ["_law_pot_here","_law_many"] []) (mD:mg "_law_digit" = some (.ref fD)) :
  aH P w K mg base aK 2 f fd ["_law_pot_here","_law_made"] tW:=by
 have GD:aH P w K mg base aK 1 fD rV ["_law_pot_here","_law_many"] my:=CT FD;refine F.ok w4 (fun vs H Q E h=>?_) (fun cdv A outer s H vs Q E hr h=>?_)
 ·unfold tW at h;obtain⟨p,n,ys,rfl,_⟩:=h;rfl
 ·unfold tW at h
  obtain⟨p,n,ys,rfl,hp,O7,hn,hlen,q⟩:=h;have cO:aV 1 _:=hr;refine⟨_,aC (br (i:=2) w4.nd rfl (Or.inl rfl) (cY oU rfl B.list boot_list (af (pv 1) ai)))
   (aC (br (i:=3) w4.nd rfl (Or.inl rfl) (c8 ai))
   (aC (jO ke rfl (nK rfl B.range (af (a8 (Ci rfl) rfl B.min boot_min (af (a8 iE rfl B.len gq (af (pv 2) ai))
     (af (cz fX (c8 (af aN (af aN (af aN (af aN (af aN (af aN (af aN ai)))))))) (bf GD cO rfl mD FD.kp bD .nil bh (af (pv 0) (af aN ai))) (fun _ _=>rfl)) ai))) ai)) (aU (i:=4) w4.nd rfl (Or.inl rfl))
    (aC (br (i:=5) w4.nd rfl (Or.inl rfl) (cz fX (c8 (af (bf GD cO rfl mD FD.kp bD .nil bh (af (pv 0) (af (a8 iE rfl B.len gq (af (pv 2) ai)) ai)))
      (af (cG LL (a8 iE rfl B.len gq (af (pv 2) ai)) aN) ai))) (bf GD cO rfl mD FD.kp bD .nil bh (af (pv 0) (af aN ai))) (fun _ _=>rfl)))
    (aM (iR (iU kf qu qv k9 (pv 3)
     (af (iU kf ain aio Km (pv 2) (af (pv 5) ai)) ai))))))
   (aM (bg (pv 3))))),?_⟩
  refine⟨_,rfl,n,_,rfl,.inl (ak.of hn),fun la qe=>?_⟩;refine⟨bG _,fun fa iB=>?_⟩;have qg:p≠la:=hp.ne qe;have rZ:la≠fa:=aq ag iB;have ue:H fa=none:=(ay qe).free iB;have nj:p≠fa:=hp.ne ue;have P0:bp p H (upd (upd H la (.lst (ys.map V.str))) fa (.lst [])):=((bp.refl hp).new qe).new iB;have rj:(upd (upd H la (.lst (ys.map V.str))) fa (.lst [])) la=some (.lst (ys.map V.str)):=by rw[ah rZ];exact ag
  have Es:(upd (upd H la (.lst (ys.map V.str))) fa (.lst [])) fa=some (.lst []):=ag;generalize upd (upd H la (.lst (ys.map V.str))) fa (.lst [])=H0 at P0 rj Es ⊢;refine⟨_,rfl,la,_,rfl,.inl (ak.of rj),?_⟩;refine⟨by show 7<=sizeLine;rw[aE];decide,fun c hc=>?_⟩
  have Pc:=P0.new (o:= .lst [V.int 0,.int 1,.int 1,.int 2,.int 2,.int 3,.int 4]) hc;refine⟨_,rfl,mq (p:=p) (m:=7) Pc.ok (by decide) (by decide) fun d H1 d0 d1 qh=>?_⟩
  have npc:p≠c:=P0.ok.ne hc;obtain⟨v,hv,v0,v4⟩:=Y2 d0 d1;refine⟨c,_,d,.int v,rfl,rfl,ak.of (qh.kp _ _ ag (aQ npc)),hv,?_⟩;have P1:=Pc.trans qh;have xq:H1 la=some (.lst (ys.map V.str)):=qh.kp _ _ (by rw[ah (aq rj hc)];exact rj) (aQ qg)
  have xr:H1 fa=some (.lst []):=qh.kp _ _ (by rw[ah (aq Es hc)];exact Es) (aQ nj)
  refine⟨_,v,rfl,?_⟩;rw[ax];obtain⟨N,hN,hN4,hNl⟩:∃N:Nat,(if v < (ys.length:Int) then v else (ys.length:Int))=N/\N<=4/\N<=ys.length:=by
   split
   ·exact⟨v.toNat,by omega,by omega,by omega⟩
   ·exact⟨ys.length,rfl,by omega,aO _⟩
  rw[hN];refine⟨(N:Int),rfl,by omega,by omega,qE (fun i σ H1=>∃ (zs ls:List Str) (v4 v5:Option V),σ = [some (.ref p),some (.ref n),some (.ref la),some (.ref fa),v4,v5]/\zs.length=i/\(zs++ls).Perm ys/\bp p H H1/\H1 la=some (.lst (ls.map V.str))/\H1 fa=some (.lst (zs.map V.str)))
   ⟨[],ys,none,none,rfl,rfl,oS _,P1,xq,xr⟩ ?_ ?_⟩
  ·rintro i σ H1 hi ⟨zs,ls,v4,v5,rfl,hz,hP,pa,xq,xr⟩
   have DS:=hP.length_eq;rw[de]at DS;have ye:i < N:=by simpa using hi
   have Ei:0 < ls.length:=by omega
   refine⟨_,rfl,_,rfl,la,_,rfl,.inl (ak.of xq),?_⟩;refine mq (p:=p) pa.ok (by rw[ax];omega) (by rw[ax];omega) fun d H2 d0 d1 pb=>?_
   have Et:=pb.kp _ _ xq (aQ qg);have Nj:=pb.kp _ _ xr (aQ nj);rw[ax]at d1;refine⟨_,rfl,la,_,rfl,.inl (ak.of Et),_,1,rfl,rfl,?_⟩;rw[ax];refine⟨by show 2<=sizeLine;rw[aE];decide,fun c2 fG=>?_⟩
   have O8:=(pa.trans pb).new (o:= .lst [V.int d,.int ((ls.length:Int) - 1)]) fG;have aaG:p≠c2:=pb.ok.ne fG;refine⟨_,rfl,mq (p:=p) (m:=2) O8.ok (by decide) (by decide) fun e H3 e0 e1 pe=>?_⟩
   obtain⟨v,hv,v0,v1⟩:=two_at (a:=d) (b:=(ls.length:Int) - 1) (m:=(ls.length:Int)) e0 e1 ⟨d0,d1⟩ ⟨by omega,by omega⟩
   have pH:H3 la=some (.lst (ls.map V.str)):=pe.kp _ _ (by rw[ah (aq Et fG)];exact Et) (aQ qg)
   have uf:H3 fa=some (.lst (zs.map V.str)):=pe.kp _ _ (by rw[ah (aq Nj fG)];exact Nj) (aQ nj)
   have P3:=O8.trans pe;refine⟨c2,_,e,.int v,rfl,rfl,ak.of (pe.kp _ _ ag (aQ aaG)),hv,?_⟩;have hd:v.toNat < ls.length:=by omega
   refine⟨_,rfl,.inl ⟨rfl,_,ak.of uf⟩,_,rfl,.inl ⟨rfl,_,ak.of pH⟩,_,rfl,?_⟩;refine⟨la,_,v,v.toNat,.str ls[v.toNat],rfl,rfl,pH,by omega,by omega,BB v0 (by rw[ax];exact v1),by rw[gA,bH hd];rfl,?_⟩
   have aaH:(upd H3 la (.lst ((ls.map V.str).eraseIdx v.toNat))) fa=some (.lst (zs.map V.str)):=by rw[ah (aQ rZ)];exact uf
   refine⟨fa,_,_,rfl,rfl,aaH,by rw[ax,aE];omega,?_⟩
   refine⟨zs ++ [ls[v.toNat]],ls.eraseIdx v.toNat,_,_,rfl,by rw[de];simp[hz],?_,(P3.write qe qg).write ue nj,?_,?_⟩
   ·refine List.Perm.trans ?_ hP
    rw[HN];exact Rz zs (Ce ls _ hd)
   ·rw[ah rZ,ag,Cz]
   ·rw[ag,bc];rfl
  ·rintro σ H1 ⟨zs,ls,v4,v5,rfl,hz,hP,pa,xq,xr⟩
   have yc:zs.length=N:=by simpa using hz
   exact⟨_,rfl,q fa zs ls H1 ue hP (by omega) pa xr⟩
end
end j6
namespace j6
open PySem L2 HT
def kept (rows:List (List Str)) (o:List Str):Bool:=rows.all fun r=>decide ((o.filter fun n=>decide (n∈r))=r)
theorem Cf {all:List (List Str)}{n:Str}:∀ {rest:List (List Str)},hV all rest=some n->b9 0 all n=none /\ ∃ (i:Nat) (r:List Str),rest[i]? = some r/\r.head? = some n /\ ∀ (j:Nat) (q:List Str) (y:Str),rest[j]? = some q->q.head? = some y->b9 0 all y=none->i<=j
 |[],h=>by cases h
 |[]::rest,h=>by
  obtain⟨h1,i,r,e1,e2,e3⟩:=Cf (rest:=rest) h;refine⟨h1,i+1,r,by simpa using e1,e2,fun j q y hj hq hy=>?_⟩
  cases j with
  |zero =>
   obtain rfl : []=q:=by simpa using hj
   simp at hq
  |succ j=>have:=e3 j q y (by simpa using hj) hq hy;omega
 |(x::t)::rest,h=>by
  have h:(if (b9 0 all x).isNone then some x else hV all rest)=some n:=h
  by_cases c:(b9 0 all x).isNone=true
  ·rw[aB c]at h
   cases h
   exact⟨by simpa using c,0,_,rfl,rfl,fun _ _ _ _ _ _=>bG _⟩
  ·rw[au c]at h
   obtain⟨h1,i,r,e1,e2,e3⟩:=Cf (rest:=rest) h;refine⟨h1,i+1,r,by simpa using e1,e2,fun j q y hj hq hy=>?_⟩
   cases j with
   |zero =>
    obtain rfl:x::t=q:=by simpa using hj
    obtain rfl:x=y:=by simpa using hq
    exact absurd (by rw[hy];rfl) c
   |succ j=>have:=e3 j q y (by simpa using hj) hq hy;omega
def WY (rest:List (List Str)) (q:List Str):Prop:=q.Nodup /\ ∀x,x∈q ↔ ∃r∈rest,x∈r
theorem CY {rest:List (List Str)}{q:List Str}:kept rest q=true ↔ ∀r∈rest,(q.filter fun n=>decide (n∈r))=r:=by
 unfold kept;rw[oQ];simp
theorem zh {n x:Str}{rest:List (List Str)}:(∃r∈L2.without n rest,x∈r) ↔ x≠n /\ ∃r∈rest,x∈r:=by
 constructor
 ·rintro⟨r,hr,hx⟩
  obtain⟨q,hq,rfl⟩:=aS.mp hr;have:=iC.mp hx;exact⟨by simpa using this.2,q,hq,this.1⟩
 ·rintro⟨h,q,hq,hx⟩
  exact⟨_,aS.mpr ⟨q,hq,rfl⟩,iC.mpr ⟨hx,by simpa using h⟩⟩
theorem WZ {rest:List (List Str)}:(rest.any fun r=>!r.isEmpty)=true ↔ ∃r∈rest,∃x,x∈r:=by
 rw[sg]
 constructor
 ·rintro⟨r,hr,e⟩
  cases r with
  |nil=>simp at e
  |cons x t=>exact⟨_,hr,x,aZ⟩
 ·rintro⟨r,hr,x,hx⟩
  refine⟨r,hr,?_⟩;cases r with
  |nil=>simp at hx
  |cons y t=>rfl
theorem sound:∀ (m:Nat) (rest:List (List Str)),total rest=m->(∀r∈rest,r.Nodup) -> ∀o,aW (total rest) rest=some o->WY rest o/\kept rest o=true:=by
 intro m
 induction m using Nat.strongRecOn with
 |_ m ih =>
  intro rest hm fU o ho;cases hA:rest.any fun r=>!r.isEmpty with
  |false =>
   rw[vK hA]at ho;cases ho
   have emp:∀r∈rest,∀x,x ∉ r:=fun r hr x hx=>by
    have:=WZ.mpr ⟨r,hr,x,hx⟩;rw[hA]at this;cases this
   refine⟨⟨lY,fun x=>⟨fun h=>by simp at h,fun⟨r,hr,hx⟩=>absurd hx (emp r hr x)⟩⟩,CY.mpr fun r hr=>?_⟩
   cases r with
   |nil=>rfl
   |cons y t=>exact absurd aZ (emp _ hr y)
  |true =>
   cases e:dX rest with
   |none=>rw[vL hA e]at ho;cases ho
   |some n =>
    rw[vM hA e]at ho;obtain⟨o',gG,rfl⟩:=iD.mp ho;have lt:=qy (oV e);obtain⟨⟨h1,h2⟩,h3⟩:=ih _ (by omega) (L2.without n rest) rfl (Jx fU) o' gG
    rw[CY]at h3;have j3:n ∉ o':=fun z=>((zh.mp ((h2 n).mp z)).1 rfl);obtain⟨wK,_⟩:=Cf e;rw[sM]at wK;refine⟨⟨eP.mpr ⟨j3,h1⟩,fun x=>?_⟩,CY.mpr fun r hr=>?_⟩
    ·rw[a9,h2,zh]
     constructor
     ·rintro(rfl|h)
      ·exact oV e
      ·exact h.2
     ·intro h
      by_cases z:x=n
      ·exact .inl z
      ·exact .inr ⟨z,h⟩
    ·have jB:=h3 _ (aS.mpr ⟨r,hr,rfl⟩)
     have same:(o'.filter fun y=>decide (y∈r))=o'.filter fun y=>decide (y∈r.filter fun y=>!decide (y=n)):=by
      apply List.filter_congr
      intro y hy;have:y≠n:=fun z=>j3 (z ▸ hy);simp[this]
     by_cases hn:n∈r
     ·have hh:=wK r hr hn
      cases r with
      |nil=>simp at hn
      |cons z t =>
       obtain rfl:z=n:=by simpa using hh
       have ht:z ∉ t:=(eP.mp (fU _ hr)).1;have et:((z::t).filter fun y=>!decide (y=z))=t:=by
        rw[vF (by simp)]
        exact ID.mpr fun y hy=>by
         have:y≠z:=fun w=>ht (w ▸ hy)
         simpa using this
       rw[su (by simp),same,jB,et]
     ·have er:(r.filter fun y=>!decide (y=n))=r:=ID.mpr fun y hy=>by
       have:y≠n:=fun w=>hn (w ▸ hy)
       simpa using this
      rw[vF (by simpa using hn),same,jB,er]
end j6
namespace j6
open PySem L2 PySem.W HT
theorem len_sub {a b:List Str} (nd:a.Nodup) (h:∀x∈a,x∈b):a.length<=b.length:=tV nd h
structure Fm (done:List Str) (L Ps:Str->List Str):Prop where
 ps:∀x∈done,(Ps x).Nodup/\(Ps x).length<=4 /\ ∀y∈Ps x,y∈done
 ln:∀x∈done,∃o,aW (total (rowsOf L (Ps x))) (rowsOf L (Ps x))=some o/\L x=x::o
 ld:∀x∈done,(L x).Nodup /\ ∀y∈L x,y∈done
 od:∀i x,done[i]? = some x -> ∀y∈Ps x,y∈done.take i
theorem nJ {L:Str->List Str}{own r:List Str}:r∈rowsOf L own ↔ (∃y∈own,r=L y)\/r=own:=by
 unfold rowsOf;rw[fb,aS,gn]
 constructor
 ·rintro(⟨y,h,rfl⟩|h)
  ·exact .inl ⟨y,h,rfl⟩
  ·exact .inr h
 ·rintro(⟨y,h,rfl⟩|h)
  ·exact .inl ⟨y,h,rfl⟩
  ·exact .inr h
theorem Fm.qR {done:List Str}{L Ps:Str->List Str} (F:Fm done L Ps) {own:List Str} (nd:own.Nodup) (sub:∀y∈own,y∈done):∀r∈rowsOf L own,r.Nodup /\ ∀y∈r,y∈done:=fun r hr=>by
 rcases nJ.mp hr with⟨y,hy,rfl⟩|rfl
 ·exact F.ld y (sub y hy)
 ·exact⟨nd,sub⟩
theorem Fm.small {done:List Str}{L Ps:Str->List Str} (F:Fm done L Ps) (hk:∀x∈done,Nm x) (h8:done.length<=8) {own:List Str} (nd:own.Nodup) (h4:own.length<=4) (sub:∀y∈own,y∈done):Small (rowsOf L own):=by
 refine⟨?_,fun r hr=>?_,fun r hr y hy=>?_⟩
 ·unfold rowsOf;rw[de,ax,iN];omega
 ·obtain⟨h1,h2⟩:=F.qR nd sub r hr
  have:=len_sub h1 h2;omega
 ·exact hk y ((F.qR nd sub r hr).2 y hy)
theorem Fm.order {done:List Str}{L Ps:Str->List Str} (F:Fm done L Ps) {own o:List Str} (nd:own.Nodup) (sub:∀y∈own,y∈done) (hm:aW (total (rowsOf L own)) (rowsOf L own)=some o):o.Nodup/\(∀y∈o,y∈done) /\ ∀r∈rowsOf L own,∀y∈r,y∈o:=by
 obtain⟨⟨h1,h2⟩,_⟩:=sound _ _ rfl (fun r hr=>(F.qR nd sub r hr).1) o hm;refine⟨h1,fun y hy=>?_,fun r hr y hy=>(h2 y).mpr ⟨r,hr,hy⟩⟩;obtain⟨r,hr,h⟩:=(h2 y).mp hy;exact(F.qR nd sub r hr).2 y h
theorem Uo {L L':Str->List Str}{own:List Str} (h:∀y∈own,L' y=L y):rowsOf L' own=rowsOf L own:=by
 unfold rowsOf;rw[y4 h]
theorem Fm.add {done:List Str}{L Ps:Str->List Str} (F:Fm done L Ps) {k:Str}{own o:List Str} (hk:k ∉ done) (nd:own.Nodup) (h4:own.length<=4) (sub:∀y∈own,y∈done) (hm:aW (total (rowsOf L own)) (rowsOf L own)=some o) :
  Fm (done ++ [k]) (fun x=>if x=k then k::o else L x) (fun x=>if x=k then own else Ps x):=by
 have nk:∀ {y},y∈done->y≠k:=fun h z=>hk (z ▸ h);have ext:∀ {ps:List Str},(∀y∈ps,y∈done)->rowsOf (fun x=>if x=k then k::o else L x) ps=rowsOf L ps:=fun h=>Uo fun y hy=>au (nk (h y hy));obtain⟨o1,o2,_⟩:=F.order nd sub hm;refine⟨fun x hx=>?_,fun x hx=>?_,fun x hx=>?_,fun i x hx y hy=>?od⟩
 case od =>
  rcases Nat.lt_or_ge i done.length with lt|ge
  ·rw[BA lt]at hx
   rw[au (nk (gB hx))]at hy;rw[aiq (vo lt)];exact F.od i x hx y hy
  ·rw[ahF ge]at hx
   have e0:i - done.length=0:=by have:=(bU.mp hx).1;rw[iN]at this;omega
   rw[e0]at hx;cases hx;rw[aB rfl]at hy;have ei:i=done.length:=by omega
   rw[ei,List.take_left];exact sub y hy
 ·by_cases e:x=k
  ·rw[aB e];exact⟨nd,h4,fun y hy=>lR _ (sub y hy)⟩
  ·rw[au e]
   obtain⟨a,b,c⟩:=F.ps x (by rcases fb.mp hx with z|z;exact z;exact absurd (by simpa using z) e)
   exact⟨a,b,fun y hy=>lR _ (c y hy)⟩
 ·by_cases e:x=k
  ·refine⟨o,?_,by rw[aB e,e]⟩
   rw[aB e,ext sub];exact hm
  ·have d9:x∈done:=by rcases fb.mp hx with z|z;exact z;exact absurd (by simpa using z) e
   obtain⟨o',h1,h2⟩:=F.ln x d9;refine⟨o',?_,by rw[au e];exact h2⟩
   rw[au e,ext (F.ps x d9).2.2];exact h1
 ·by_cases e:x=k
  ·rw[aB e]
   refine⟨eP.mpr ⟨fun z=>hk (o2 k z),o1⟩,fun y hy=>?_⟩;rcases a9.mp hy with z|z
   ·rw[z];exact gk _ aZ
   ·exact lR _ (o2 y z)
  ·rw[au e]
   have d9:x∈done:=by rcases fb.mp hx with z|z;exact z;exact absurd (by simpa using z) e
   obtain⟨a,b⟩:=F.ld x d9;exact⟨a,fun y hy=>lR _ (b y hy)⟩
def cM (Ps:Str->List Str) (ks:List Str):List (Str×List Str):=ks.map fun x=>(x,Ps x)
theorem Cg (Ps:Str->List Str) (ks:List Str):(cM Ps ks).map (·.1)=ks:=by
 unfold cM;rw[ji];exact List.map_id' _
theorem KW (xs:List Str):d6 (xs.map V.str) none (some (-1))=xs.dropLast.map V.str:=by
 unfold d6;have e1:HT.gx (xs.map V.str).length 0 none=0:=rfl;have e2:HT.gx (xs.map V.str).length (xs.map V.str).length (some (-1))=xs.length - 1:=by
  rw[ax];unfold HT.gx;simp;omega
 rw[e1,e2,List.drop_zero,Nat.sub_zero,<-II,List.dropLast_eq_take]
theorem zB {p a:Addr}{H:Hp}{xs:List Str} (h:dZ p H) (e:H a=some (.lst (xs.map V.str))):a≠p:=by
 rintro rfl;obtain⟨x,y,e2,_⟩:=h;rw[e]at e2;have e3:xs.map V.str = [.int x,.int y]:=HO.lst.inj (gy e2);cases xs with
 |nil=>cases e3
 |cons z t=>cases e3
theorem fV.O9 {p:Addr}{H H':Hp}{kvs:List (Key×V)}{L:Str->List Str}{x:Str} (h:fV H kvs L x) (ok:dZ p H) (s:bp p H H'):fV H' kvs L x:=let ⟨a,e,q⟩:=h;⟨a,e,s.kp _ _ q (zB ok q)⟩
theorem fV.write {H H':Hp}{d:Addr}{kvs aaI:List (Key×V)}{L:Str->List Str}{x:Str}{u:HO} (h:fV H kvs L x) (hd:H d=some (.dK aaI)) (e:H'=upd H d u):fV H' kvs L x:=let ⟨a,e1,q⟩:=h;⟨a,e1,by rw[e,ah (bY q hd (by intro z;cases z))];exact q⟩
theorem LD {p d:Addr}{H H':Hp}{kvs:List (Key×V)} (ok:dZ p H) (s:bp p H H') (e:H d=some (.dK kvs)):H' d=some (.dK kvs):=by
 obtain⟨x,y,ep,_⟩:=ok;exact s.kp _ _ e (bY e ep (by intro z;cases z))
theorem nO {p:Addr}{H H':Hp} (h:dZ p H) (s:ao H H'):bp p H H':=by
 obtain⟨x,y,e,r⟩:=h;exact⟨⟨x,y,s _ _ e,r⟩,fun b o e _=>s b o e⟩
theorem LF {H:Hp}{kvs:List (Key×V)}{L:Str->List Str}{k:Str}{a d:Addr}{l:List Str} (hd:H d=some (.dK kvs)) (hl:H a=some (.lst (l.map V.str))) {x:Str} (h:x≠k->fV H kvs L x) :
  fV (upd H d (.dK (putK kvs (Sum.inr k) (.ref a)))) (putK kvs (Sum.inr k) (.ref a)) (fun x=>if x=k then l else L x) x:=by
 unfold fV;rw[vV]
 by_cases e:x=k
 ·subst e
  refine⟨a,by rw[aB rfl],?_⟩
  rw[ah (bY hl hd (by intro z;cases z))];show H a=some (.lst ((if x=x then l else L x).map V.str));rw[aB rfl];exact hl
 ·obtain⟨b,e1,e2⟩:=h e
  refine⟨b,by rw[au (fun z=>e (sd z))];exact e1,?_⟩
  rw[ah (bY e2 hd (by intro z;cases z))];show H b=some (.lst ((if x=k then l else L x).map V.str));rw[au e];exact e2
theorem KY {kvs:List (Key×V)}{done:List Str}{k:Str}{v:V} (h:kvs.map (·.1)=done.map Sum.inr) (hk:k ∉ done):(putK kvs (Sum.inr k) v).map (·.1)=(done ++ [k]).map Sum.inr:=by
 have hv:cp kvs (Sum.inr k)=none:=by
  have:(cp kvs (Sum.inr k)).isSome=false:=by
   rw[<-sR,QR];intro kv jC hd;have e:kv.1=Sum.inr k:=yZ hd;have:kv.1∈kvs.map (·.1):=aS.mpr ⟨kv,jC,rfl⟩;rw[h,e]at this;obtain⟨y,hy,ey⟩:=aS.mp this;exact hk (sd ey ▸ hy)
  cases e:cp kvs (Sum.inr k) with
  |none=>rfl
  |some _=>rw[e]at this;cases this
 rw[Vu _ hv,bc,bc,h];rfl
section
variable{P:Program}{w:World}{K:Frag}{mg:Str->Option Value}{base:Heap}{f:Addr}{fd:FuncData}
theorem bE.keyed {H:Hp}{vs:List V}{aa:List (Str×List Str)} (h:bE H vs aa):∃kvs,wz H 1 vs kvs/\kvs.map (·.1)=aa.map fun p=>[p.1]:=by
 induction h with
 |nil=>exact⟨[],.nil,rfl⟩
 |@cons y p _ _ hp _ ih =>
  obtain⟨a,b,e,q,r⟩:=hp;obtain⟨kvs,h1,h2⟩:=ih;exact⟨([p.1],[.ref b])::kvs,.cons ⟨a,e,q,rfl⟩ h1,by rw[cA,cA,h2]⟩
theorem vO {H:Hp}:∀ {vs:List V}{aa:List (Str×List Str)}{kvs:List (List Str×List V)},bE H vs aa->wz H 1 vs kvs->kvs.map (·.1)=aa.map fun p=>[p.1]
 |_,_,_,.nil,.nil=>rfl
 |_,_,_,.cons ⟨a,b,e,q,r⟩ t,.cons (b:=kv) ⟨a',e',q',l'⟩ t'=>by
  have ea:a=a':=by rw[e]at e';cases e';rfl
  subst ea;rw[q]at q';rw[cA,cA,vO t t'];obtain⟨ks,rest⟩:=kv
  match ks,l' with
  |[k],_ =>
   injection (gy q') with z;injection z with z1 z2;injection z1 with z3;rw[z3]
theorem vT {aa:List (Str×List Str)} (h:(aa.map (·.1)).Nodup):(aa.map fun p=>[p.1]).Nodup:=by
 have:(aa.map fun p=>[p.1])=(aa.map (·.1)).map fun x=>[x]:=by rw[ji];rfl
 rw[this];exact sq.mpr (h.imp fun {a b} n e=>n (by injection e))
structure L5 (p:Addr) (H:Hp) (ks:List Str) (r t d1 d2:Addr) (ws:List V) (gF:List (Key×V)) (L Ps:Str->List Str) (aa:List (Str×List Str)) (H':Hp):Prop where
 hr:H' r=some (.tup [.ref t,.ref d1,.ref d2])
 ht:H' t=some (.tup ws)
 fv:bE H' ws aa
 pm:aa.Perm (cM Ps ks)
 fm:Fm ks L Ps
 hd:H' d2=some (.dK gF)
 hk:gF.map (·.1)=ks.map Sum.inr
 pl:∀x∈ks,fV H' gF Ps x
 pa:bp p H H'
 n2:H d2=none
 so:(aa.map (·.1)).Pairwise fun a b=>gM a b=true
@[irreducible] def tX:Sp:=fun vs H Q _=>∃ (p n:Addr) (ks:List Str),vs = [.ref p,.ref n]/\dZ p H/\H n=some (.lst (ks.map V.str))/\ks.Nodup/\(∀x∈ks,Nm x)/\ks.length<=8 /\
 ∀r t d1 d2 ws gF L Ps aa H',L5 p H ks r t d1 d2 ws gF L Ps aa H'->Q (.ref r) H'
theorem X2 {p n:Addr}{ks:List Str}{H:Hp}{Q:VK}{E:XK} (hp:dZ p H) (hn:H n=some (.lst (ks.map V.str))) (nd:ks.Nodup) (nm:∀x∈ks,Nm x) (h8:ks.length<=8)
  (q:∀r t d1 d2 ws gF L Ps aa H',L5 p H ks r t d1 d2 ws gF L Ps aa H'->Q (.ref r) H'):tX [.ref p,.ref n] H Q E:=by unfold tX;exact⟨p,n,ks,rfl,hp,hn,nd,nm,h8,q⟩
abbrev Nk:List Str:= ["_law_pot_here","_law_kinds","_law_lines","_law_parents_here","_law_kind","_law_own","_law_turn","_law_family_here"]
theorem pE:b8 Nk ["_law_pot_here","_law_kinds"] (aJ vX):=⟨rfl,rfl,rfl,by decide +kernel,rfl,by decide +kernel,by decide +kernel⟩
abbrev aaJ:Expr:=eY (eY (eK (cb (cu vX) 2)))
theorem Ms:bX Nk (aJ vX) ["_law_kind","_law_parents_here"] [none,some 3] (cj aaJ):=⟨rfl,by decide +kernel,by decide +kernel,rfl,cU (by decide +kernel),by decide +kernel⟩
theorem X3 {fP fL:Addr}{dP dL:FuncData} (F:aX K "_law_family" "_law_family" vX f fd) (B:dJ mg) (B2:gr mg)
  (GP:aH P w K mg base aK 2 fP dP ["_law_pot_here","_law_made"] tW) (kP:keepIn K (.ref fP)=true) (bP:Binds K dP ["_law_pot_here","_law_made"] []) (mP:mg "_law_parents" = some (.ref fP))
  (GL:aH P w K mg base aK 2 fL dL ["_law_lines","_law_kind","_law_own"] uh) (kL:keepIn K (.ref fL)=true) (bL:Binds K dL ["_law_lines","_law_kind","_law_own"] []) (mL:mg "_law_line" = some (.ref fL)) :
  aH P w K mg base aK 3 f fd ["_law_pot_here","_law_kinds"] tX:=by
 refine F.ok pE (fun vs H Q E h=>?_) (fun cdv A outer s H vs Q E hr h=>?_)
 ·unfold tX at h;obtain⟨p,n,ks,rfl,_⟩:=h;rfl
 ·unfold tX at h
  obtain⟨p,n,ks,rfl,hp,hn,knd,Bf,k8,q⟩:=h;have hu:=hr.units;have eu:=qw (qx (show 1<=64 by decide) _) hu
  refine⟨_,aC (tq (kj (af CK (af CK ai))) (pj rfl (eW (aU (i:=2) pE.nd rfl (Or.inl rfl)) (eW (aU (i:=3) pE.nd rfl (Or.inr rfl)) lj))))
   (aC (jO ke rfl (gC (pv 1)) (aU (i:=4) pE.nd rfl (Or.inl rfl))
    (aC (br (i:=5) pE.nd rfl (Or.inl rfl) (bf GP hr rfl mP kP bP .nil bh (af (pv 0) (af (cY (TM rfl) rfl B.list boot_list (af (pv 2) ai)) ai))))
    (aC (jO ke rfl (nK rfl B.range (af aN ai)) (aU (i:=6) pE.nd rfl (Or.inl rfl))
     (aM (dj (d5 zK (bf GL hr rfl mL kL bL .nil bh (af (pv 2) (af (pv 4) (af (pv 5) ai)))) jr (cZ _))
      (aM (br (i:=5) pE.nd rfl (Or.inl rfl) (mi nP (pv 5) mx (ll (wM wq aN))))) dh)))
    (aC (C7 eu (pv 2) (pv 4) (bf GL hr rfl mL kL bL .nil bh (af (pv 2) (af (pv 4) (af (pv 5) ai)))) rfl)
    (aM (C7 eu (pv 3) (pv 4) (pv 5) rfl))))))
   (aC (br (i:=7) pE.nd rfl (Or.inl rfl) (cY jl rfl B.tuple boot_tuple (af (a8 vG rfl B2.sorted boot_sorted (af (dv rfl Ms (gC (pv 1)) (fun s H fp=>⟨aU (i:=0) Ms.nd rfl (Or.inl rfl),eF,
     kj (af (pv 0) (af (cY (zf K rfl) rfl B.tuple boot_tuple (af (lq eu (pv 1) (pv 0) (fun _ _=>rfl)) ai)) ai))⟩)) ai)) ai)))
   (aM (bg (kj (af (pv 7) (af (pv 2) (af (pv 3) ai)))))))),?_⟩
  intro d1 uN d2 hd2;have S2:ao H (upd (upd H d1 (.dK [])) d2 (.dK [])):=(ay uN).trans (ay hd2);have yj:d1≠d2:=aq ag hd2;have Eu:H d2=none:=(ay uN).free hd2;refine⟨by show 2<=sizeLine;rw[aE];decide,fun tp Gh=>?_⟩
  have k2:(upd (upd H d1 (.dK [])) d2 (.dK [])) d1=some (.dK []):=by rw[ah yj];exact ag
  have S3:=S2.trans (ay (o:= .tup [V.ref d1,.ref d2]) Gh);have Nl:upd (upd (upd H d1 (.dK [])) d2 (.dK [])) tp (.tup [V.ref d1,.ref d2]) d1=some (.dK []):=by rw[ah (aq k2 Gh)];exact k2
  have Nn:upd (upd (upd H d1 (.dK [])) d2 (.dK [])) tp (.tup [V.ref d1,.ref d2]) d2=some (.dK []):=by rw[ah (aq ag Gh)];exact ag
  refine⟨tp,_,rfl,aG.of ag,rfl,_,_,rfl,_,_,rfl,rfl,?_⟩;generalize upd (upd (upd H d1 (.dK [])) d2 (.dK [])) tp (.tup [V.ref d1,.ref d2])=H0 at S3 Nl Nn ⊢;have P0:bp p H H0:=nO hp S3;have np1:p≠d1:=hp.ne uN;have np2:p≠d2:=hp.ne Eu;have Gi:n≠p:=zB hp hn;refine⟨_,rfl,n,rfl,⟨_,ak.of (P0.kp _ _ hn Gi)⟩,CD (xs:=ks.map V.str) (fun i σ H1=>∃ (iZ gF:List (Key×V)) (L Ps:Str->List Str) (v4 v5 v6:Option V),σ = [some (.ref p),some (.ref n),some (.ref d1),some (.ref d2),v4,v5,v6,none]/\bp p H H1 /\
   H1 d1=some (.dK iZ)/\H1 d2=some (.dK gF)/\iZ.map (·.1)=(ks.take i).map Sum.inr/\gF.map (·.1)=(ks.take i).map Sum.inr/\(∀x∈ks.take i,fV H1 iZ L x)/\(∀x∈ks.take i,fV H1 gF Ps x)/\Fm (ks.take i) L Ps)
   ⟨[],[],fun _=>[],fun _=>[],none,none,none,rfl,P0,Nl,Nn,rfl,rfl,fun x hx=>(by cases hx),fun x hx=>(by cases hx),⟨fun x hx=>(by cases hx),fun x hx=>(by cases hx),fun x hx=>(by cases hx),fun i x hx=>(by cases hx)⟩⟩ (fun i σ H1 _ ⟨_,_,_,_,_,_,_,_,z,_⟩=>ak.of (z.kp _ _ hn Gi)) ?_ ?_⟩
  ·rintro i x σ H1 hx ⟨iZ,gF,L,Ps,v4,v5,v6,rfl,P1,pU,x4,e1,e2,l1,l2,fm⟩
   have dH:i < ks.length:=by simpa using (bU.mp hx).1
   obtain rfl:V.str ks[i]=x:=by simpa [dH] using hx
   have lP:ks.take (i+1)=ks.take i ++ [ks[i]]:=by rw[df,bH dH];rfl
   have ui:ks[i] ∉ ks.take i:=by
    have:(ks.take (i+1)).Nodup:=knd.sublist (yN _ _);rw[lP]at this;exact fun z=>(jg.mp this).2.2 _ z _ aZ rfl
   have Gj:(ks.take i).Nodup:=knd.sublist (yN _ _);have O':∀x∈ks.take i,Nm x:=fun x hx=>Bf x (vE hx);have d8:(ks.take i).length<=8:=by rw[cK];omega
   have lk1:iZ.length=(ks.take i).length:=by have:=eO List.length e1;simpa using this
   have lk2:gF.length=(ks.take i).length:=by have:=eO List.length e2;simpa using this
   refine⟨_,rfl,_,rfl,d1,iZ,rfl,pU,fun l hl=>?_⟩;have ek:iZ.map (fun kv=>kV kv.1)=(ks.take i).map V.str:=by
    have:iZ.map (fun kv=>kV kv.1)=(iZ.map (·.1)).map kV:=by rw[ji];rfl
    rw[this,e1,ji];rfl
   rw[ek];have Pl:=P1.new (o:= .lst ((ks.take i).map V.str)) hl;have Sl:=ay (o:= .lst ((ks.take i).map V.str)) hl;refine X0 Pl.ok (P1.ok.ne hl) ag (by omega) fun oa own rest H3 i8 ff fH pb h3=>?_
   have P3:=Pl.trans pb;have jE:own.Nodup:=(jg.mp (ff.nodup_iff.mpr Gj)).1;have iI:∀y∈own,y∈ks.take i:=fun y hy=>ff.mem_iff.mp (lR _ hy);have Gk:=LD Pl.ok pb (Sl _ _ pU);have h32:=LD Pl.ok pb (Sl _ _ x4);have Gm:∀x∈ks.take i,fV H3 iZ L x:=fun x hx=>((l1 x hx).same Sl).O9 Pl.ok pb;have l32:∀x∈ks.take i,fV H3 gF Ps x:=fun x hx=>((l2 x hx).same Sl).O9 Pl.ok pb;refine⟨5,rfl,by decide,by decide,qE (fun j σ H4=>∃ (oa:Addr) (own:List Str) (v6:Option V),σ = [some (.ref p),some (.ref n),some (.ref d1),some (.ref d2),some (.str ks[i]),some (.ref oa),v6,none]/\ao H3 H4/\H4 oa=some (.lst (own.map V.str))/\own.Nodup/\(∀y∈own,y∈ks.take i)/\own.length<=4/\(aW (total (rowsOf L own)) (rowsOf L own)≠none\/own.length+j<=4))
    ⟨oa,own,_,rfl,ao.refl _,h3,jE,iI,fH,.inr fH⟩ ?_ ?_⟩
   ·clear ff fH jE iI h3 i8
    rintro j σ H4 hj ⟨oa,own,v6,rfl,S4,h4,jE,iI,fH,Gn⟩;have rT:=fm.small O' d8 jE fH iI;have Gp:=fun r hr=>(fm.qR jE iI r hr).1;refine⟨_,rfl,_,rfl,_,rfl,Mr (S4 _ _ Gk) h4 (fun x hx=>(Gm x (iI x hx)).same S4) rT Gp (fun e H5 S5=>?_) (fun o e lp H5 hlp S5 h5=>?_)⟩
    ·refine⟨rfl,_,rfl,?_⟩
     refine⟨_,rfl,?_⟩;have bx:own ≠ []:=fun z=>by rw[z]at e;cases e
     have Ei:0 < own.length:=aii.mpr bx;refine⟨1,rfl,_,rfl,oa,_,rfl,ak.of (S5 _ _ h4),fun c hc=>?_⟩;refine⟨c,own.dropLast,_,rfl,(S4.trans S5).trans (ay hc),?_,jE.sublist (List.dropLast_sublist _),fun y hy=>iI y (List.dropLast_subset _ hy),by rw[air];omega,.inr ?_⟩
     ·have:=KW own
      rw[ag];exact eO some (eO HO.lst this)
     ·rcases Gn with z|z
      ·exact absurd e z
      ·rw[air];omega
    ·refine⟨rfl,_,rfl,?_⟩
     exact⟨oa,own,_,rfl,S4.trans S5,S5 _ _ h4,jE,iI,fH,.inl (by rw[e];exact Option.some_ne_none _)⟩
   ·clear ff fH jE iI h3 i8
    rintro σ H4 ⟨oa,own,v6,rfl,S4,h4,jE,iI,fH,Gn⟩;have rT:=fm.small O' d8 jE fH iI;have Gp:=fun r hr=>(fm.qR jE iI r hr).1;have Gq:aW (total (rowsOf L own)) (rowsOf L own)≠none:=by
     rcases Gn with z|z
     ·exact z
     ·exact absurd z (by show ¬ (own.length+Int.toNat 5<=4);have:Int.toNat 5=5:=rfl;omega)
    refine⟨_,rfl,_,rfl,_,rfl,Mr (S4 _ _ Gk) h4 (fun x hx=>(Gm x (iI x hx)).same S4) rT Gp (fun e=>absurd e Gq) (fun o e lp H5 hlp S5 h5=>?_)⟩;have yz:=S4.trans S5;have Bg:=yz _ _ Gk;have h52:=yz _ _ h32;refine⟨_,rfl,_,rfl,d1,_,rfl,rg.k (k:=Sum.inr ks[i]) Bg (by rw[aE];omega),?_⟩
    have Gr:upd H5 d1 (.dK (putK iZ (Sum.inr ks[i]) (.ref lp))) d2=some (.dK gF):=by rw[ah (aQ yj)];exact h52
    refine⟨_,rfl,_,rfl,_,rfl,d2,_,rfl,rg.k (k:=Sum.inr ks[i]) Gr (by rw[aE];omega),?_⟩
    have P5:bp p H H5:=P3.trans (nO P3.ok yz);have l61:∀x∈ks.take (i+1),fV (upd H5 d1 (.dK (putK iZ (Sum.inr ks[i]) (.ref lp)))) (putK iZ (Sum.inr ks[i]) (.ref lp)) (fun x=>if x=ks[i] then ks[i]::o else L x) x:=fun x hx=>LF Bg h5 fun ne=>(Gm x (by
     rw[lP]at hx;rcases fb.mp hx with z|z
     ·exact z
     ·exact absurd (by simpa using z) ne)).same yz
    have h6o:upd H5 d1 (.dK (putK iZ (Sum.inr ks[i]) (.ref lp))) oa=some (.lst (own.map V.str)):=by rw[ah (bY (S5 _ _ h4) Bg (by intro z;cases z))];exact S5 _ _ h4
    refine⟨_,_,_,_,_,_,_,rfl,(P5.write uN np1).write Eu np2,by rw[ah yj];exact ag,ag,by rw[lP];exact KY e1 ui,by rw[lP];exact KY e2 ui,fun x hx=>(l61 x hx).write Gr rfl,fun x hx=>?_,by rw[lP];exact fm.add ui jE fH iI e⟩
    refine LF Gr h6o fun ne=>?_;exact((l32 x (by
     rw[lP]at hx;rcases fb.mp hx with z|z
     ·exact z
     ·exact absurd (by simpa using z) ne)).same yz).write Bg rfl
  ·rintro σ H1 ⟨iZ,gF,L,Ps,v4,v5,v6,rfl,P1,pU,x4,e1,e2,l1,l2,fm⟩
   rw[ax,du]at e2 l2 fm;have Pa:=P1.kp _ _ hn Gi;refine⟨_,rfl,n,rfl,⟨_,ak.of Pa⟩,fun c hc=>?_⟩;refine gR (xs:=ks.map V.str) (fun i ys τ H2=>∃t0:Option V,τ = [t0,some (.ref d2)]/\H2 c=some (.lst ys)/\ao H1 H2/\bE H2 ys (cM Ps (ks.take i))) ⟨none,rfl,ag,ay hc,.nil⟩ (fun i ys τ H2 ⟨_,_,z1,z2,_⟩=>⟨z1,ak.of (z2 _ _ Pa)⟩) ?_ ?_
   ·rintro i x ys τ H2 hx ⟨t0,rfl,h2,yA,F2⟩
    have cg:i < (ks.map V.str).length:=(bU.mp hx).1;have dH:i < ks.length:=by simpa using cg
    obtain rfl:V.str ks[i]=x:=by simpa [dH] using hx
    have lP:ks.take (i+1)=ks.take i ++ [ks[i]]:=by rw[df,bH dH];rfl
    obtain⟨a,ea,ha⟩:=(l2 ks[i] (jf dH)).same yA;refine⟨_,rfl,_,rfl,_,rfl,d2,.ref a,rfl,by rw[<-ea];exact ig.k (k:=Sum.inr ks[i]) (yA _ _ x4),?_⟩
    refine⟨a,_,rfl,.inl ⟨ak.of ha,fun b hb=>?_⟩⟩;have Sb:=ay (o:= .tup ((Ps ks[i]).map V.str)) hb;refine⟨by show 2<=sizeLine;rw[aE];decide,fun t ht=>?_⟩
    have St:=Sb.trans (ay (o:= .tup [V.str ks[i],.ref b]) ht);have oC:upd (upd H2 b (.tup ((Ps ks[i]).map V.str))) t (.tup [V.str ks[i],.ref b]) b=some (.tup ((Ps ks[i]).map V.str)):=by rw[ah (aq ag ht)];exact ag
    have lQ:=St _ _ h2;refine⟨lQ,?_,cw_next cg ⟨_,rfl,ag,fun x u hx=>by rw[ah (aq hx hc)];exact St _ _ (yA x u hx),?_⟩⟩
    ·have:=F2.length
     unfold cM at this;rw[ax,cK]at this;rw[aE];omega
    ·have ef:cM Ps (ks.take (i+1))=cM Ps (ks.take i) ++ [(ks[i],Ps ks[i])]:=by rw[lP];unfold cM;rw[bc];rfl
     rw[ef];refine bE.append (F2.keep fun x xs hx=>?_) ?_ ?_ (b:=b)
     ·rw[ah (bY hx h2 (by intro z;cases z))];exact St _ _ hx
     ·rw[ah (bY ag lQ (by intro z;cases z))];exact ag
     ·rw[ah (bY oC lQ (by intro z;cases z))];exact oC
   ·rintro ys τ H2 ⟨t0,rfl,h2,yA,F2⟩
    rw[ax,du]at F2;obtain⟨kvs,K7,ek⟩:=F2.keyed;have u7:=F2.length;have hlk:(cM Ps ks).length=ks.length:=by unfold cM;exact ax ..
    refine⟨c,ys,kvs,1,rfl,.inl (ak.of h2),K7,aO _,by rw[ek];exact vT (by rw[Cg];exact knd),by omega,fun D cq eJ hD ff hK pY gZ=>?_⟩
    have SD:=ay (o:= .lst cq) hD;refine⟨D,cq,rfl,.inl ⟨ak.of ag,fun t ht=>?_⟩⟩;have St:=SD.trans (ay (o:= .tup cq) ht);obtain⟨jw,gg,F3⟩:=vI ff F2;rw[vO F3 hK]at gZ;have gZ:(jw.map (·.1)).Pairwise fun a b=>gM a b=true:=by
     rw[sq]at gZ ⊢;exact gZ.imp fun {a b} z=>by rw[zG]at z;exact z
    refine⟨_,rfl,_,rfl,_,rfl,by show 3<=sizeLine;rw[aE];decide,fun r hr=>?_⟩
    have Sr:=St.trans (ay (o:= .tup [V.ref t,.ref d1,.ref d2]) hr);have Ew:=yA.trans Sr;refine q r t d1 d2 cq gF L Ps jw _ ⟨ag,by rw[ah (aq ag hr)];exact ag,bE.same F3 Sr,gg,fm,Ew _ _ x4,e2,fun x hx=>(l2 x hx).same Ew,P1.trans (nO P1.ok Ew),Eu,gZ⟩
end
theorem ite_ff {A B:Prop}{k:Bool} (hk:k=false) (h:B):if k=true then A else B:=by subst hk;exact h
theorem ite_tt {A B:Prop}{k:Bool} (hk:k=true) (h:A):if k=true then A else B:=by subst hk;exact h
theorem boot_set:bootBuiltins "set" = some (.type "set"):=by decide +kernel
theorem LG {a b:List Str} (ha:a.Nodup) (hb:b.Nodup) (h:∀x,x∈a ↔ x∈b):a.Perm b:=(R7 ha hb).mpr h
def tG (s:Stmt):Expr:=match s with|.If t _ _ _=>t|_=>.Constant .none 0 ⟨0,0,0,0⟩
theorem CZ {X:Cx}{pos:Pos} (K:Frag) (h:X.K=K) {es:List Expr}{k:Nat}{t:m5}{n:Nat} (hc:X.calm=true) (hh:uD X es t)
  (hn:(assignEach es X.env).length=n:=by rfl) (rC:(assignEach es X.env).findIdx? (·.1)=none:=by rfl):PG X (.Tuple es k pos) (Mz K n t):=by subst h;exact pj hc hh hn rC
def keysOf (aa:aI):List Str:=aa.map (·.1)
def FA (H:Hp) (t:Addr) (aa:aI):Prop:=ck aa /\ ∃ws,H t=some (.tup ws)/\bE H ws aa
theorem FA.same {H H':Hp}{t:Addr}{aa:aI} (h:FA H t aa) (s:ao H H'):FA H' t aa:=let ⟨a,ws,b,c⟩:=h;⟨a,ws,s _ _ b,c.same s⟩
theorem ck.Pb {aa:aI} (s:ck aa) {x:Str} (h:x∈keysOf aa):Nm x:=by obtain⟨p,hp,rfl⟩:=aS.mp h;exact s.nm p hp
theorem LH {X:Cx}:Passes (eN X.prog X.w) X fun _ _ _=>False:=fun pins σ H s e s' I z=>by
 obtain⟨_,_,_,_,_,_,_,_,_,_,_,_,_,_,_,f⟩:=z;exact f.elim
section
variable{P:Program}{w:World}{K:Frag}{mg:Str->Option Value}{base:Heap}{f:Addr}{fd:FuncData}
@[irreducible] def nU:Sp:=fun vs H Q _=>∃x:Str,vs = [.str x]/\Nm x /\ ∀H',ao H H'->Q (.bl true) H'
theorem zI {x:Str}{H:Hp}{Q:VK}{E:XK} (h:Nm x) (q:∀H',ao H H'->Q (.bl true) H'):nU [.str x] H Q E:=by unfold nU;exact⟨x,rfl,h,q⟩
theorem X4:b8 ["thing"] ["thing"] (aJ we):=⟨rfl,rfl,rfl,by decide +kernel,rfl,by decide +kernel,by decide +kernel⟩
abbrev aaK:Expr:=eY (xm (cb (cu we) 1))
theorem Mt:bX ["thing"] (aJ we) ["sign"] [none] (cj aaK):=⟨rfl,by decide +kernel,by decide +kernel,rfl,cU (by decide +kernel),by decide +kernel⟩
theorem W0 (F:aX K "is_name" "is_name" we f fd) (B:dJ mg) (B2:gr mg):aH P w K mg base aK 1 f fd ["thing"] nU:=by
 refine F.ok X4 (fun vs H Q E h=>?_) (fun cdv A outer s H vs Q E hr h=>?_)
 ·unfold nU at h;obtain⟨x,rfl,_⟩:=h;rfl
 ·unfold nU at h
  obtain⟨x,rfl,hx,q⟩:=h;have hu:=hr.units;refine⟨_,aC (dj (PW.pt (pw_or (fq (eG (a8 mj rfl B2.j8 jM (af (pv 0) (af (lh (v:= .ty "str") rfl B2.str boot_str rfl) ai)))))
     (pw_or1 (fq (Vn Mb Mb aN (a8 SF rfl B.len gq (af (pv 0) ai)) aN))))) (aM (bg gE)) dh)
   (aM (bg (a8 (qF rfl) rfl B.all boot_all (af (dv rfl Mt (XR (pv 0)) (fun s H fp=>⟨aU (i:=0) Mt.nd rfl (Or.inl rfl),eF,Vm JS JS lu (pv 0) lu⟩)) ai)))),?_⟩
  have cy:=hx.lo;have dk:=hx.hi;have hlc:x.cps.size<=8:=hx.hi;refine⟨_,rfl,⟨_,.inr ⟨"str",rfl⟩⟩,.str x,.ty "str",.type "str",.type "str",true,rfl,rfl,.inl (.str x),rfl,true,rfl,?_⟩;refine⟨_,rfl,x,rfl,by rw[aE];omega,1,x.length,rfl,rfl,_,rfl,?_⟩
  refine ite_tt (gm (by omega)) ?_
  refine⟨x.length,8,rfl,rfl,_,rfl,?_⟩;have e8:decide ((x.length:Int)<=8)=true:=gm (by omega)
  rw[e8];refine⟨_,rfl,x,rfl,fun p hp=>?_⟩;refine VB (fun i ys τ H1=>∃t0:Option V,τ = [t0]/\ys=(List.replicate i true).map V.bl/\H1=upd H p (.lst ys)) ⟨none,rfl,rfl,rfl⟩ (fun i ys τ H1 ⟨_,_,_,z⟩=>by rw[z];exact ag) ?_ ?_
  ·rintro i c ys τ H1 hc ⟨t0,rfl,rfl,rfl⟩
   have dH:i < x.cps.size:=by
    obtain⟨h,_⟩:=yR.mp hc;exact h
   have hcz:=hx.az c (Array.mem_def.mp (ahY hc));have e1:(!decide ((⟨#[c]⟩:Str).cps.toList < (Str.ofString "a").cps.toList))=true:=by
    have : ¬ ([c] < [97]):=by simp[ais];omega
    have hA:(Str.ofString "a").cps.toList = [97]:=by decide +kernel
    rw[hA];simpa using this
   have e2:(!decide ((Str.ofString "z").cps.toList < (⟨#[c]⟩:Str).cps.toList))=true:=by
    have : ¬ ([122] < [c]):=by simp[ais];omega
    have hA:(Str.ofString "z").cps.toList = [122]:=by decide +kernel
    rw[hA];simpa using this
   refine⟨_,rfl,_,_,rfl,rfl,_,rfl,ite_tt e1 ⟨_,_,rfl,rfl,ag,by rw[ax,vv,aE];omega,cw_next dH ⟨_,rfl,?_,?_⟩⟩⟩
   ·rw[e2,y6,bc];rfl
   ·rw[iQ]
  ·rintro ys τ H1 ⟨t0,rfl,rfl,rfl⟩
   refine⟨p,_,rfl,ak.of ag,?_⟩;have:(List.replicate x.cps.size true).all id=true:=by simp
   rw[this];exact q _ (ay hp)
@[irreducible] def rn:Sp:=fun vs H Q _=>∃ (t:Addr) (xs:List Str),vs = [.ref t]/\H t=some (.tup (xs.map V.str))/\(∀x∈xs,Nm x)/\xs.Nodup/\xs.length<=100 /\ ∀H',ao H H'->Q (.bl true) H'
theorem rw_sp {t:Addr}{xs:List Str}{H:Hp}{Q:VK}{E:XK} (ht:H t=some (.tup (xs.map V.str))) (nm:∀x∈xs,Nm x) (nd:xs.Nodup) (hl:xs.length<=100) (q:∀H',ao H H'->Q (.bl true) H'):rn [.ref t] H Q E:=by unfold rn;exact⟨t,xs,rfl,ht,nm,nd,hl,q⟩
theorem aaL:b8 ["thing"] ["thing"] (aJ wA):=⟨rfl,rfl,rfl,by decide +kernel,rfl,by decide +kernel,by decide +kernel⟩
abbrev eRw:Expr:=eY (ud (wG (tG (cb (cu wA) 0)) 1))
theorem Np:bX ["thing"] (aJ wA) ["name"] [none] (cj eRw):=⟨rfl,by decide +kernel,by decide +kernel,rfl,cU (by decide +kernel),by decide +kernel⟩
theorem Y3 {fN:Addr}{dN:FuncData} (F:aX K "is_row" "is_row" wA f fd) (B:dJ mg) (B2:gr mg) (bs:mg "set" = none) (GN:aH P w K mg base aK 1 fN dN ["thing"] nU) (kN:keepIn K (.ref fN)=true) (bN:Binds K dN ["thing"] []) (mN:mg "is_name" = some (.ref fN)):aH P w K mg base aK 2 f fd ["thing"] rn:=by
 refine F.ok aaL (fun vs H Q E h=>?_) (fun cdv A outer s H vs Q E hr h=>?_)
 ·unfold rn at h;obtain⟨t,xs,rfl,_⟩:=h;rfl
 ·unfold rn at h
  obtain⟨t,xs,rfl,ht,nm,nd,hl,q⟩:=h;have cO:aV 1 _:=hr;refine⟨_,aC (dj (PW.pt (pw_or (fq (eG (a8 mj rfl B2.j8 jM (af (pv 0) (af (lh (v:= .ty "tuple") rfl B.tuple boot_tuple rfl) ai)))))
    (pw_or1 (fq (eG (a8 (qF rfl) rfl B.all boot_all (af (dv rfl Np (jN (pv 0)) (fun s H fp=>⟨aU (i:=0) Np.nd rfl (Or.inl rfl),eF,bf GN cO rfl mN kN bN .nil bh (af (pv 0) ai)⟩)) ai))))))) (aM (bg gE)) dh)
   (aM (bg (jo zU (a8 Jd rfl B.len gq (af (cY (CO rfl) rfl bs boot_set (af (pv 0) ai)) ai)) (a8 iE rfl B.len gq (af (pv 0) ai)) (cZ _)))),?_⟩
  refine⟨_,rfl,⟨_,.inr ⟨"tuple",rfl⟩⟩,.ref t,.ty "tuple",.type "tuple",.type "tuple",true,rfl,rfl,.inl (.tup ht),rfl,true,rfl,?_⟩;refine⟨_,rfl,t,rfl,⟨_,aG.of ht⟩,fun p hp=>?_⟩;refine jK (xs:=xs.map V.str) (fun i ys τ H1=>∃t0:Option V,τ = [t0]/\ys=(List.replicate i true).map V.bl/\ao H H1/\H1 p=some (.lst ys)) ⟨none,rfl,rfl,ay hp,ag⟩ (fun i ys τ H1 ⟨_,_,_,z,z2⟩=>⟨z2,aG.of (z _ _ ht)⟩) ?_ ?_
  ·rintro i x ys τ H1 hx ⟨t0,rfl,rfl,S1,h1⟩
   have cg:i < (xs.map V.str).length:=(bU.mp hx).1;have dH:i < xs.length:=by simpa using cg
   obtain rfl:V.str xs[i]=x:=by simpa [dH] using hx
   refine⟨_,rfl,zI (nm _ (jf dH)) fun H2 S2=>⟨S2 _ _ h1,by rw[ax,vv,aE];omega,cw_next cg ⟨_,rfl,?_,fun b u e=>?_,ag⟩⟩⟩
   ·rw[y6,bc];rfl
   ·rw[ah (aq e hp)];exact S2 _ _ (S1 _ _ e)
  ·rintro ys τ H1 ⟨t0,rfl,rfl,S1,h1⟩
   refine⟨p,_,rfl,ak.of h1,_,rfl,?_⟩;have:(List.replicate (xs.map V.str).length true).all id=true:=by simp
   rw[this];have qj:=S1 _ _ ht;refine⟨_,rfl,t,xs,rfl,.inr (aG.of qj),by omega,fun a ds ha Gs mem=>?_⟩
   have S2:=ay (o:=n9 P w a ds) ha;refine⟨a,ds,rfl,ag,_,rfl,t,_,rfl,.inr (aG.of (S2 _ _ qj)),rfl,?_⟩;rw[ax,(LG Gs nd mem).length_eq];have:decide (V.int (xs.length:Int)=V.int (xs.length:Int))=true:=gm rfl;rw[this];exact q _ (S1.trans S2)
@[irreducible] def pA:Sp:=fun vs H Q _=>∃ (t:Addr) (aa:aI) (x:Str),vs = [.ref t,.str x]/\FA H t aa/\Nm x /\ ∀H',ao H H'->Q (.bl (decide (x∈keysOf aa))) H'
theorem Dp {t:Addr}{aa:aI}{x:Str}{H:Hp}{Q:VK}{E:XK} (ht:FA H t aa) (hx:Nm x) (q:∀H',ao H H'->Q (.bl (decide (x∈keysOf aa))) H'):pA [.ref t,.str x] H Q E:=by unfold pA;exact⟨t,aa,x,rfl,ht,hx,q⟩
theorem X5:b8 ["family","thing"] ["family","thing"] (aJ Di):=⟨rfl,rfl,rfl,by decide +kernel,rfl,by decide +kernel,by decide +kernel⟩
theorem KZ:∀ (kvs:List (Str×V)) (x:Str),(cp (qN kvs) (Sum.inr x)).isSome=decide (x∈kvs.map (·.1))
 |[],x=>rfl
 |p::kvs,x=>by
  rw[show qN (p::kvs)=(Sum.inr p.1,p.2)::qN kvs from rfl]
  by_cases e:p.1=x
  ·rw[jL (by rw[e])];simp[e]
  ·rw[jm (fun z=>e (sd z)),KZ kvs x]
   simp[a9,aQ e]
theorem W2 {fN:Addr}{yB:FuncData} (F:aX K "is_kind" "is_kind" Di f fd) (B2:gr mg) (GN:aH P w K mg base aK 1 fN yB ["thing"] nU) (kN:keepIn K (.ref fN)=true) (bN:Binds K yB ["thing"] []) (mN:mg "is_name" = some (.ref fN)):aH P w K mg base aK 2 f fd ["family","thing"] pA:=by
 refine F.ok X5 (fun vs H Q E h=>?_) (fun cdv A outer s H vs Q E hr h=>?_)
 ·unfold pA at h;obtain⟨t,aa,x,rfl,_⟩:=h;rfl
 ·unfold pA at h
  obtain⟨t,aa,x,rfl,⟨st,ws,ht,hf⟩,hx,q⟩:=h;have hu:=hr.units;have eu:=qw (qx (show 1<=64 by decide) _) hu
  refine⟨_,aM (bg (o6 (bf GN hr rfl mN kN bN .nil bh (af (pv 1) ai)) (tm (LJ (LR eu (pv 1) (cY (T8 rfl) rfl B2.dict boot_dict (af (pv 0) ai))))))),?_⟩;obtain⟨kvs,hp,hk⟩:=hf.pairs;refine⟨_,rfl,zI hx fun H1 S1=>⟨true,rfl,?_⟩⟩;refine⟨_,rfl,_,rfl,t,ws,kvs,rfl,S1 _ _ ht,hp.same S1,by rw[hk];exact st.nd,fun d hd=>⟨d,_,rfl,ig.k (k:=Sum.inr x) ag,?_⟩⟩
  rw[KZ,hk];exact q _ (S1.trans (ay hd))
@[irreducible] def sY:Sp:=fun vs H Q _=>∃ (t:Addr) (aa:aI) (x:Str),vs = [.ref t,.str x]/\FA H t aa/\x∈keysOf aa /\ ∀H',ao H H'->Q .aF H'
theorem V6 {t:Addr}{aa:aI}{x:Str}{H:Hp}{Q:VK}{E:XK} (ht:FA H t aa) (hx:x∈keysOf aa) (q:∀H',ao H H'->Q .aF H'):sY [.ref t,.str x] H Q E:=by unfold sY;exact⟨t,aa,x,rfl,ht,hx,q⟩
theorem W3:b8 ["family","thing"] ["family","thing"] (aJ Dj):=⟨rfl,rfl,rfl,by decide +kernel,rfl,by decide +kernel,by decide +kernel⟩
theorem V7 {fK:Addr}{Pd:FuncData} (F:aX K "check_kind" "check_kind" Dj f fd) (GK:aH P w K mg base aK 2 fK Pd ["family","thing"] pA) (kK:keepIn K (.ref fK)=true) (bK:Binds K Pd ["family","thing"] []) (mK:mg "is_kind" = some (.ref fK)):aH P w K mg base aK 3 f fd ["family","thing"] sY:=by
 refine F.ok W3 (fun vs H Q E h=>?_) (fun cdv A outer s H vs Q E hr h=>?_)
 ·unfold sY at h;obtain⟨t,aa,x,rfl,_⟩:=h;rfl
 ·unfold sY at h
  obtain⟨t,aa,x,rfl,ht,hx,q⟩:=h;refine⟨_,aM (dj (fq (eG (bf GK hr rfl mK kK bK .nil bh (af (pv 0) (af (pv 1) ai))))) zi dh),?_⟩;refine⟨_,rfl,_,rfl,Dp ht (ht.1.Pb hx) fun H1 S1=>⟨true,?_,q H1 S1⟩⟩;rw[gm hx]
@[irreducible] def tY:Sp:=fun vs H Q _=>∃x:Str,vs = [.str x]/\Nm x /\ ∀H',ao H H'->Q .aF H'
theorem X6 {x:Str}{H:Hp}{Q:VK}{E:XK} (hx:Nm x) (q:∀H',ao H H'->Q .aF H'):tY [.str x] H Q E:=by unfold tY;exact⟨x,rfl,hx,q⟩
theorem Y4:b8 ["thing"] ["thing"] (aJ Df):=⟨rfl,rfl,rfl,by decide +kernel,rfl,by decide +kernel,by decide +kernel⟩
theorem X7 {fN:Addr}{yB:FuncData} (F:aX K "check_name" "check_name" Df f fd) (GN:aH P w K mg base aK 1 fN yB ["thing"] nU) (kN:keepIn K (.ref fN)=true) (bN:Binds K yB ["thing"] []) (mN:mg "is_name" = some (.ref fN)):aH P w K mg base aK 2 f fd ["thing"] tY:=by
 refine F.ok Y4 (fun vs H Q E h=>?_) (fun cdv A outer s H vs Q E hr h=>?_)
 ·unfold tY at h;obtain⟨x,rfl,_⟩:=h;rfl
 ·unfold tY at h
  obtain⟨x,rfl,hx,q⟩:=h;refine⟨_,aM (dj (fq (eG (bf GN hr rfl mN kN bN .nil bh (af (pv 0) ai)))) zi dh),?_⟩;exact⟨_,rfl,zI hx fun H1 S1=>⟨true,rfl,q H1 S1⟩⟩
@[irreducible] def qH:Sp:=fun vs H Q _=>∃ (t:Addr) (aa:aI) (k:Str),vs = [.ref t,.str k]/\FA H t aa/\fg aa/\k∈keysOf aa /\ ∀p H',ao H H'->H' p=some (.tup ((bo aa k).map V.str))->Q (.ref p) H'
theorem CA {t:Addr}{aa:aI}{k:Str}{H:Hp}{Q:VK}{E:XK} (ht:FA H t aa) (al:fg aa) (hk:k∈keysOf aa) (q:∀p H',ao H H'->H' p=some (.tup ((bo aa k).map V.str))->Q (.ref p) H'):qH [.ref t,.str k] H Q E:=by unfold qH;exact⟨t,aa,k,rfl,ht,al,hk,q⟩
theorem aaM:b8 ["family","kind"] ["family","kind"] (aJ Dk):=⟨rfl,rfl,rfl,by decide +kernel,rfl,by decide +kernel,by decide +kernel⟩
theorem Vc {C fC fL:Addr}{Pe u0:FuncData} (F:aX K "line_of" "line_of" Dk f fd) (GC:aH P w K mg base aK 3 fC Pe ["family","thing"] sY) (kC:keepIn K (.ref fC)=true) (bC:Binds K Pe ["family","thing"] []) (mC:mg "check_kind" = some (.ref fC))
  (GL:aH P w K mg base (eN P w) 5 fL u0 ["family"] (oY C)) (kL:keepIn K (.ref fL)=true) (bL:Binds K u0 ["family"] []) (mL:mg "lines_of" = some (.ref fL)):aH P w K mg base aK 6 f fd ["family","kind"] qH:=by
 refine F.ok aaM (fun vs H Q E h=>?_) (fun cdv A outer s H vs Q E hr h=>?_)
 ·unfold qH at h;obtain⟨t,aa,k,rfl,_⟩:=h;rfl
 ·unfold qH at h
  obtain⟨t,aa,k,rfl,ht,al,hk,q⟩:=h;have hu:=hr.units;have eu:=qw (qx (show 1<=64 by decide) _) hu
  have oE:aV 5 _:=hr;have qk:aV 3 _:=oE.mono (by decide)
  refine⟨_,aC (iR (bf GC qk rfl mC kC bC .nil bh (af (pv 0) (af (pv 1) ai))))
   (aM (bg (lq eu (bf GL oE rfl mL kL bL .nil LH (af (pv 0) ai)) (pv 1) (fun _ _=>rfl)))),?_⟩
  refine⟨_,rfl,_,rfl,V6 ht hk fun H1 S1=>?_⟩;obtain⟨st,ws,qj,hf⟩:=ht.same S1;obtain⟨pk,pY,rfl⟩:=aS.mp hk;refine⟨_,rfl,CU qj hf st (fun k' cJ hm hx hg=>absurd (al (k',cJ) hm) (tU.no st ⟨cJ,hm,hx,hg⟩)) fun d gF H2 hd S2 h2 _ hl _=>?_⟩;obtain⟨a,ea,ha⟩:=hl al pk pY;refine⟨_,rfl,d,.ref a,rfl,?_,q a H2 (S1.trans S2) ha⟩;rw[<-ea];exact ig.k (k:=Sum.inr pk.1) h2
@[irreducible] def qS:Sp:=fun vs H Q _=>∃ (t b:Addr) (aa:aI) (xs:List Str),vs = [.ref t,.ref b]/\FA H t aa/\H b=some (.tup (xs.map V.str))/\xs.Nodup/\xs.length<=4/\(∀x∈xs,x∈keysOf aa) /\ ∀H',ao H H'->Q (.bl true) H'
theorem LI {t b:Addr}{aa:aI}{xs:List Str}{H:Hp}{Q:VK}{E:XK} (ht:FA H t aa) (hb:H b=some (.tup (xs.map V.str))) (nd:xs.Nodup) (h4:xs.length<=4) (c9:∀x∈xs,x∈keysOf aa) (q:∀H',ao H H'->Q (.bl true) H'):qS [.ref t,.ref b] H Q E:=by
 unfold qS;exact⟨t,b,aa,xs,rfl,ht,hb,nd,h4,c9,q⟩
theorem X8:b8 ["family","thing"] ["family","thing"] (aJ wX):=⟨rfl,rfl,rfl,by decide +kernel,rfl,by decide +kernel,by decide +kernel⟩
abbrev Y5:Expr:=eY (xm (cb (cu wX) 1))
theorem L6:bX ["family","thing"] (aJ wX) ["parent","family"] [none,some 0] (cj Y5):=⟨rfl,by decide +kernel,by decide +kernel,rfl,cU (by decide +kernel),by decide +kernel⟩
theorem W4 {fK fR:Addr}{dK dR:FuncData}{tk:Tok} (F:aX K "are_parents" "are_parents" wX f fd) (B:dJ mg) (mM:mg "MOST_PARENTS" = some (.int 4 tk)) (GK:aH P w K mg base aK 2 fK dK ["family","thing"] pA) (kK:keepIn K (.ref fK)=true) (bK:Binds K dK ["family","thing"] []) (mK:mg "is_kind" = some (.ref fK))
  (GR:aH P w K mg base aK 2 fR dR ["thing"] rn) (kR:keepIn K (.ref fR)=true) (bR:Binds K dR ["thing"] []) (mR:mg "is_row" = some (.ref fR)):aH P w K mg base aK 3 f fd ["family","thing"] qS:=by
 refine F.ok X8 (fun vs H Q E h=>?_) (fun cdv A outer s H vs Q E hr h=>?_)
 ·unfold qS at h;obtain⟨t,b,aa,xs,rfl,_⟩:=h;rfl
 ·unfold qS at h
  obtain⟨t,b,aa,xs,rfl,ht,hb,nd,h4,c9,q⟩:=h;have iA:aV 2 _:=hr;refine⟨_,aC (dj (PW.pt (pw_or (fq (eG (bf GR iA rfl mR kR bR .nil bh (af (pv 1) ai)))) (pw_or1 (d5 Mc (a8 iE rfl B.len gq (af (pv 1) ai)) (C3 (v:= .int 4) rfl mM ⟨tk,rfl⟩) (cZ _))))) (aM (bg gE)) dh)
   (aM (bg (a8 (qF rfl) rfl B.all boot_all (af (dv rfl L6 (jN (pv 1)) (fun s H fp=>⟨aU (i:=0) L6.nd rfl (Or.inl rfl),eF,bf GK iA rfl mK kK bK .nil bh (af (pv 1) (af (pv 0) ai))⟩)) ai)))),?_⟩
  have nm:∀x∈xs,Nm x:=fun x hx=>ht.1.Pb (c9 x hx);refine⟨_,rfl,rw_sp hb nm nd (by omega) fun H1 S1=>⟨true,rfl,?_⟩⟩
  have gL:=S1 _ _ hb;refine⟨_,rfl,b,_,rfl,.inr (aG.of gL),_,4,rfl,rfl,_,rfl,?_⟩;refine ite_ff (jd (by rw[ax];omega)) ?_
  refine⟨_,rfl,b,rfl,⟨_,aG.of gL⟩,fun p hp=>?_⟩;refine jK (xs:=xs.map V.str) (fun i ys τ H2=>∃t0:Option V,τ = [t0,some (.ref t)]/\ys=(List.replicate i true).map V.bl/\ao H1 H2/\H2 p=some (.lst ys)) ⟨none,rfl,rfl,ay hp,ag⟩ (fun i ys τ H2 ⟨_,_,_,z,z2⟩=>⟨z2,aG.of (z _ _ gL)⟩) ?_ ?_
  ·rintro i x ys τ H2 hx ⟨t0,rfl,rfl,S2,h2⟩
   have cg:i < (xs.map V.str).length:=(bU.mp hx).1;have dH:i < xs.length:=by simpa using cg
   obtain rfl:V.str xs[i]=x:=by simpa [dH] using hx
   have hm:=jf dH;refine⟨_,rfl,_,rfl,Dp (ht.same (S1.trans S2)) (nm _ hm) fun H3 S3=>⟨S3 _ _ h2,by rw[ax,vv,aE];omega,cw_next cg ⟨_,rfl,?_,fun b u e=>?_,ag⟩⟩⟩
   ·rw[gm (c9 _ hm),y6,bc];rfl
   ·rw[ah (aq e hp)];exact S3 _ _ (S2 _ _ e)
  ·rintro ys τ H2 ⟨t0,rfl,rfl,S2,h2⟩
   refine⟨p,_,rfl,ak.of h2,?_⟩;have:(List.replicate (xs.map V.str).length true).all id=true:=by simp
   rw[this];exact q _ (S1.trans S2)
@[irreducible] def uj:Sp:=fun vs H Q _=>∃ (t b:Addr) (aa:aI) (xs:List Str),vs = [.ref t,.ref b]/\FA H t aa/\H b=some (.tup (xs.map V.str))/\xs.Nodup/\xs.length<=4/\(∀x∈xs,x∈keysOf aa) /\ ∀H',ao H H'->Q .aF H'
theorem Y6 {t b:Addr}{aa:aI}{xs:List Str}{H:Hp}{Q:VK}{E:XK} (ht:FA H t aa) (hb:H b=some (.tup (xs.map V.str))) (nd:xs.Nodup) (h4:xs.length<=4) (c9:∀x∈xs,x∈keysOf aa) (q:∀H',ao H H'->Q .aF H'):uj [.ref t,.ref b] H Q E:=by
 unfold uj;exact⟨t,b,aa,xs,rfl,ht,hb,nd,h4,c9,q⟩
theorem aaN:b8 ["family","thing"] ["family","thing"] (aJ Dl):=⟨rfl,rfl,rfl,by decide +kernel,rfl,by decide +kernel,by decide +kernel⟩
theorem Y7 {fA:Addr}{dA:FuncData} (F:aX K "check_parents" "check_parents" Dl f fd) (GA:aH P w K mg base aK 3 fA dA ["family","thing"] qS) (kA:keepIn K (.ref fA)=true) (bA:Binds K dA ["family","thing"] []) (mA:mg "are_parents" = some (.ref fA)):aH P w K mg base aK 4 f fd ["family","thing"] uj:=by
 refine F.ok aaN (fun vs H Q E h=>?_) (fun cdv A outer s H vs Q E hr h=>?_)
 ·unfold uj at h;obtain⟨t,b,aa,xs,rfl,_⟩:=h;rfl
 ·unfold uj at h
  obtain⟨t,b,aa,xs,rfl,ht,hb,nd,h4,c9,q⟩:=h;refine⟨_,aM (dj (fq (eG (bf GA hr rfl mA kA bA .nil bh (af (pv 0) (af (pv 1) ai))))) zi dh),?_⟩;exact⟨_,rfl,_,rfl,LI ht hb nd h4 c9 fun H1 S1=>⟨true,rfl,q H1 S1⟩⟩
end
theorem bV.congr {aa jw:aI} (h:∀p,p∈aa->p∈jw) {k:Str}{l:List Str} (z:bV aa k l):bV jw k l:=by
 induction z with
 |mk hm hx hg ih=>exact .mk (h _ hm) ih hg
theorem zC {aa jw:aI} (p:jw.Perm aa) {k:Str}{l:List Str}:bV jw k l ↔ bV aa k l:=⟨bV.congr fun _ h=>p.mem_iff.mp h,bV.congr fun _ h=>p.mem_iff.mpr h⟩
theorem ck.perm {aa jw:aI} (s:ck aa) (p:jw.Perm aa):ck jw:=by
 refine⟨(p.map _).nodup_iff.mpr s.nd,by rw[p.length_eq];exact s.bw,fun q h=>s.nm q (p.mem_iff.mp h),fun q h x hx=>?_,fun q h=>s.four q (p.mem_iff.mp h),fun q h=>s.kY q (p.mem_iff.mp h)⟩
 obtain⟨r,hr,e⟩:=s.up q (p.mem_iff.mp h) x hx;exact⟨r,p.mem_iff.mpr hr,e⟩
theorem L7 {aa:aI} (s:ck aa) {k:Str}:Ln aa k ↔ ∃l,bV aa k l:=⟨fun h=>⟨_,h⟩,fun⟨_,h⟩=>h.ln s⟩
theorem wj {aa jw:aI} (s:ck aa) (p:jw.Perm aa) {k:Str}:Ln jw k ↔ Ln aa k:=by
 rw[L7 s,L7 (s.perm p)];exact⟨fun⟨l,h⟩=>⟨l,(zC p).mp h⟩,fun⟨l,h⟩=>⟨l,(zC p).mpr h⟩⟩
theorem Vd {a b:aI} (sb:ck b) (p:a.Perm b) {x:Str} (h:Ln b x):bo a x=bo b x:=((zC p).mpr h).line (sb.perm p)
theorem K0:∀xs ys:List Str,PyData.eqvAll (xs.map PyData.str) (ys.map PyData.str)=decide (xs=ys)
 |[],[]=>rfl
 |[],y::ys=>rfl
 |x::xs,[]=>rfl
 |x::xs,y::ys=>by
  show((x==y) && PyData.eqvAll (xs.map PyData.str) (ys.map PyData.str))=_;rw[K0 xs ys]
  by_cases e:x=y
  ·by_cases f:xs=ys <;> simp[e,f]
  ·simp[e]
def gO (aa:aI):Prop:=(aa.map (·.1)).Pairwise fun a b=>gM a b=true
def hZ (aa:aI) (k:Str):aI:=aa.filter fun p=>!decide (p.1=k)
def cN (aa:aI) (k:Str) (ps:List Str):aI:=hZ aa k ++ [(k,ps)]
theorem ki {aa:aI}{k:Str}{ps:List Str}{p:Str×List Str}:p∈cN aa k ps ↔ (p∈aa/\p.1≠k)\/p=(k,ps):=by
 unfold cN hZ;rw[fb,iC,gn];simp
theorem K1 {aa:aI} (st:ck aa) (hl:aa.length<=14) {k:Str}{ps:List Str} (nm:Nm k) (nd:ps.Nodup) (h4:ps.length<=4) (c9:∀x∈ps,x∈keysOf aa):ck (cN aa k ps):=by
 have sub:∀p∈hZ aa k,p∈aa/\p.1≠k:=fun p hp=>by
  obtain⟨h1,h2⟩:=iC.mp hp;exact⟨h1,by simpa using h2⟩
 refine⟨?_,?_,fun p hp=>?_,fun p hp x hx=>?_,fun p hp=>?_,fun p hp=>?_⟩
 ·unfold cN
  rw[bc,jg];refine⟨List.Nodup.sublist (List.filter_sublist.map _) st.nd,by simp,fun a ha b hb e=>?_⟩
  obtain⟨p,hp,rfl⟩:=aS.mp ha;have:b=k:=by simpa using hb
  exact(sub p hp).2 (e.trans this)
 ·unfold cN
  have:(hZ aa k).length<=aa.length:=jk _ _;rw[de,iN];omega
 ·rcases ki.mp hp with⟨h,_⟩|rfl
  ·exact st.nm p h
  ·exact nm
 ·have key:x∈keysOf aa:=by
   rcases ki.mp hp with⟨h,_⟩|rfl
   ·obtain⟨q,hq,rfl⟩:=st.up p h x hx
    exact aS.mpr ⟨q,hq,rfl⟩
   ·exact c9 x hx
  by_cases e:x=k
  ·exact⟨(k,ps),ki.mpr (.inr rfl),e.symm⟩
  ·obtain⟨q,hq,rfl⟩:=aS.mp key
   exact⟨q,ki.mpr (.inl ⟨hq,e⟩),rfl⟩
 ·rcases ki.mp hp with⟨h,_⟩|rfl
  ·exact st.four p h
  ·exact h4
 ·rcases ki.mp hp with⟨h,_⟩|rfl
  ·exact st.kY p h
  ·exact nd
theorem sT {aa:aI}{k:Str}{ps:List Str} (hk:k ∉ keysOf aa) {x:Str}{l:List Str} (h:bV aa x l):bV (cN aa k ps) x l:=bV.congr (fun p hp=>ki.mpr (.inl ⟨hp,fun e=>hk (aS.mpr ⟨p,hp,e⟩)⟩)) h
theorem Kf {aa:aI}{k:Str}{ps:List Str} (st:ck (cN aa k ps)) (hk:k ∉ keysOf aa) {x:Str} (h:Ln aa x):bo (cN aa k ps) x=bo aa x:=(sT hk h).line st
theorem sZ {aa:aI} (al:fg aa) {x:Str} (h:x∈keysOf aa):Ln aa x:=by obtain⟨p,hp,rfl⟩:=aS.mp h;exact al p hp
section
variable{P:Program}{w:World}{K:Frag}{mg:Str->Option Value}{base:Heap}{f:Addr}{fd:FuncData}
@[irreducible] def uk:Sp:=fun vs H Q _=>∃ (t:Addr) (aa:aI) (k:Str),vs = [.ref t,.str k]/\FA H t aa /\ ∀r gN H',ao H H'->H' r=some (.tup gN)->bE H' gN (hZ aa k)->Q (.ref r) H'
theorem Y8 {t:Addr}{aa:aI}{k:Str}{H:Hp}{Q:VK}{E:XK} (ht:FA H t aa) (q:∀r gN H',ao H H'->H' r=some (.tup gN)->bE H' gN (hZ aa k)->Q (.ref r) H'):uk [.ref t,.str k] H Q E:=by unfold uk;exact⟨t,aa,k,rfl,ht,q⟩
theorem aaO:b8 ["family","kind"] ["family","kind"] (aJ vW):=⟨rfl,rfl,rfl,by decide +kernel,rfl,by decide +kernel,by decide +kernel⟩
abbrev eWo:Expr:=eY (xm (cb (cu vW) 0))
theorem Nq:bX ["family","kind"] (aJ vW) ["pair","kind"] [none,some 1] (cj eWo):=⟨rfl,by decide +kernel,by decide +kernel,rfl,cU (by decide +kernel),by decide +kernel⟩
theorem Y9 (F:aX K "without_kind" "without_kind" vW f fd) (B:dJ mg):aH P w K mg base aK 1 f fd ["family","kind"] uk:=by
 refine F.ok aaO (fun vs H Q E h=>?_) (fun cdv A outer s H vs Q E hr h=>?_)
 ·unfold uk at h;obtain⟨t,aa,k,rfl,_⟩:=h;rfl
 ·unfold uk at h
  obtain⟨t,aa,k,rfl,⟨st,ws,ht,hf⟩,q⟩:=h;have hl:=st.bw;refine⟨_,aM (bg (cY jl rfl B.tuple boot_tuple (af (dv rfl Nq (jN (pv 0)) (fun s H fp=>⟨aU (i:=0) Nq.nd rfl (Or.inl rfl),lb (d5 wN (cz (sQ K rfl) (pv 0) aN (fun _ _=>rfl)) (pv 1) (cZ _)),pv 0⟩)) ai))),?_⟩;have hlen:=hf.length;refine⟨_,rfl,t,rfl,⟨_,aG.of ht⟩,fun c hc=>?_⟩;refine jK (xs:=ws) (fun i ys τ H1=>∃t0:Option V,τ = [t0,some (.str k)]/\bE H ys (hZ (aa.take i) k)/\H1=upd H c (.lst ys)) ⟨none,rfl,.nil,rfl⟩ (fun i ys τ H1 ⟨_,_,_,z⟩=>by rw[z];exact⟨ag,aG.of (by rw[ah (aq ht hc)];exact ht)⟩) ?_ ?_
  ·rintro i x ys τ H1 hx ⟨t0,rfl,F1,rfl⟩
   have aP:i < ws.length:=(bU.mp hx).1;obtain⟨p,hp,a,b,rfl,ha,hb⟩:=lr hf hx;have tk:aa.take (i+1)=aa.take i ++ [p]:=by rw[df,hp];rfl
   refine⟨_,rfl,a,_,0,.str p.1,rfl,rfl,aG.of (by rw[ah (aq ha hc)];exact ha),(show cI [V.str p.1,V.ref b] ((0:Nat):Int)=some (.str p.1) from eT rfl),_,rfl,rfl,_,rfl,?_⟩
   refine iH (fun bx=>?_) (fun bx=>?_)
   ·have mZ:p.1≠k:=fun z=>by rw[z]at bx;simp at bx
    refine⟨_,rfl,ag,?_,cw_next aP ⟨_,rfl,?_,by rw[iQ]⟩⟩
    ·have h1:=F1.length
     have h2:(hZ (aa.take i) k).length<=(aa.take i).length:=jk _ _;rw[cK]at h2;rw[aE];omega
    ·have e1:hZ (aa.take (i+1)) k=hZ (aa.take i) k ++ [p]:=by rw[tk];unfold hZ;rw[kh,su (by simpa using mZ)];rfl
     rw[e1];exact bE.append F1 ha hb
   ·have mZ:p.1=k:=by
     by_cases z:p.1=k
     ·exact z
     ·exact absurd (by simp[z]) bx
    refine cw_next aP ⟨_,rfl,?_,rfl⟩;have e1:hZ (aa.take (i+1)) k=hZ (aa.take i) k:=by rw[tk];unfold hZ;rw[kh,vF (by simpa using mZ)];simp
    rw[e1];exact F1
  ·rintro ys τ H1 ⟨t0,rfl,F1,rfl⟩
   rw[hlen,du]at F1;refine⟨c,_,rfl,.inl ⟨ak.of ag,fun r hr=>?_⟩⟩;have S:=(ay (o:= .lst ys) hc).trans (ay (o:= .tup ys) hr);exact q r ys _ S ag (F1.same S)
@[irreducible] def um (C:Addr):Sp:=fun vs H Q E=>∃ (t pa:Addr) (aa:aI) (k:Str) (ps:List Str),vs = [.ref t,.str k,.ref pa]/\FA H t aa/\H pa=some (.tup (ps.map V.str))/\ck (cN aa k ps) /\
 (∀k' cJ,(k',cJ)∈(cN aa k ps)->(∀x∈cJ,Ln (cN aa k ps) x)->aW (total (rowsOf (bo (cN aa k ps)) cJ)) (rowsOf (bo (cN aa k ps)) cJ)=none -> ∀a H',ao H H'->pJ C k' (rowsOf (bo (cN aa k ps)) cJ) H' a->E (.ref C) (some a) H') /\ ∀t' told H',ao H H'->FA H' t' told->told.Perm (cN aa k ps)->gO told->xo told->Q (.ref t') H'
theorem Y' {C t pa:Addr}{aa:aI}{k:Str}{ps:List Str}{H:Hp}{Q:VK}{E:XK} (ht:FA H t aa) (hp:H pa=some (.tup (ps.map V.str))) (st:ck (cN aa k ps)) (qn:∀k' cJ,(k',cJ)∈(cN aa k ps)->(∀x∈cJ,Ln (cN aa k ps) x)->aW (total (rowsOf (bo (cN aa k ps)) cJ)) (rowsOf (bo (cN aa k ps)) cJ)=none -> ∀a H',ao H H'->pJ C k' (rowsOf (bo (cN aa k ps)) cJ) H' a->E (.ref C) (some a) H')
  (q:∀t' told H',ao H H'->FA H' t' told->told.Perm (cN aa k ps)->gO told->xo told->Q (.ref t') H'):um C [.ref t,.str k,.ref pa] H Q E:=by
 unfold um;exact⟨t,pa,aa,k,ps,rfl,ht,hp,st,qn,q⟩
abbrev nWp:List Str:= ["family","kind","parents","told"]
theorem Nr:b8 nWp ["family","kind","parents"] (aJ DN):=⟨rfl,rfl,rfl,by decide +kernel,rfl,by decide +kernel,by decide +kernel⟩
theorem Za {C fW fL:Addr}{dW dL:FuncData} (F:aX K "with_parents" "with_parents" DN f fd) (B:dJ mg) (B2:gr mg) (GW:aH P w K mg base aK 1 fW dW ["family","kind"] uk) (kW:keepIn K (.ref fW)=true) (bW:Binds K dW ["family","kind"] []) (mW:mg "without_kind" = some (.ref fW))
  (GL:aH P w K mg base (eN P w) 5 fL dL ["family"] (oY C)) (kL:keepIn K (.ref fL)=true) (bL:Binds K dL ["family"] []) (mL:mg "lines_of" = some (.ref fL)):aH P w K mg base (eN P w) 6 f fd ["family","kind","parents"] (um C):=by
 refine F.xT Nr (fun vs H Q E h=>?_) (fun cdv A outer s H vs Q E hr h=>?_)
 ·unfold um at h;obtain⟨t,pa,aa,k,ps,rfl,_⟩:=h;rfl
 ·unfold um at h
  obtain⟨t,pa,aa,k,ps,rfl,ht,hp,st,qn,q⟩:=h;have oE:aV 5 _:=hr;have cO:aV 1 _:=oE.mono (by decide)
  refine⟨_,aC (br (i:=3) Nr.nd rfl (Or.inl rfl) (cY jl rfl B.tuple boot_tuple (af (a8 vG rfl B2.sorted boot_sorted (af (cG Lj (bf GW cO rfl mW kW bW .nil bh (af (pv 0) (af (pv 1) ai))) (kj (af (kj (af (pv 1) (af (pv 2) ai))) ai))) ai)) ai)))
   (aC (iR (bf GL oE rfl mL kL bL .nil DI (af (pv 3) ai)))
   (aM (bg (pv 3)))),?_⟩
  have bw:=st.bw;rw[show(cN aa k ps).length=(hZ aa k).length+1 from de]at bw;refine⟨_,rfl,_,rfl,Y8 ht fun r gN H1 S1 h1 F1=>?_⟩;refine⟨_,rfl,_,rfl,by show 2<=sizeLine;rw[aE];decide,fun c1 vd=>⟨by show 1<=sizeLine;rw[aE];decide,fun c2 fG=>?_⟩⟩
  have T1:=ay (o:= .tup [V.str k,.ref pa]) vd;have T2:=T1.trans (ay (o:= .tup [V.ref c1]) fG);have S2:=S1.trans T2;have xD:=F1.length;refine⟨r,c2,_,_,rfl,rfl,T2 _ _ h1,ag,by rw[aE];show _+1<=_;omega,fun c3 H3 S3 h3=>?_⟩
  have aaP:upd (upd H1 c1 (.tup [V.str k,.ref pa])) c2 (.tup [V.ref c1]) c1=some (.tup [V.str k,.ref pa]):=by rw[ah (aq ag fG)];exact ag
  have F3:bE H3 (gN ++ [.ref c1]) (cN aa k ps):=bE.append (F1.same (T2.trans S3)) (S3 _ _ aaP) (S3 _ _ (S2 _ _ hp));have Bh:=S2.trans S3;obtain⟨kvs,K3,ek⟩:=F3.keyed;refine⟨c3,_,kvs,1,rfl,.inr (aG.of h3),K3,aO _,by rw[ek];exact vT st.nd,by rw[de,iN];omega,fun D cq eJ hD ff hK pY gZ=>?_⟩
  obtain⟨told,gg,F4⟩:=vI ff F3;rw[vO F4 hK]at gZ;have so:gO told:=by
   unfold gO;rw[sq]at gZ ⊢;exact gZ.imp fun {a b} z=>by rw[zG]at z;exact z
  have SD:=ay (o:= .lst cq) hD;refine⟨D,cq,rfl,.inl ⟨ak.of ag,fun t' ht'=>?_⟩⟩;have St:=SD.trans (ay (o:= .tup cq) ht');have yC:=Bh.trans St;have F5:=bE.same F4 St;have jW:=st.perm gg;refine⟨_,rfl,CU ag F5 jW (fun k' cJ hm hx hg a H5 S5 r5=>by
   have er:rowsOf (bo told) cJ=rowsOf (bo (cN aa k ps)) cJ:=sH fun x h=>Vd st gg ((wj st gg).mp (hx x h));rw[er]at hg r5;exact qn k' cJ (gg.mem_iff.mp hm) (fun x h=>(wj st gg).mp (hx x h)) hg a H5 (yC.trans S5) r5) fun d gF H5 hd S5 h5 fr _ _=>?_⟩
  exact⟨_,rfl,q t' told H5 (yC.trans S5) ⟨jW,cq,S5 _ _ ag,F5.same S5⟩ gg so fr⟩
@[irreducible] def rq (C:Addr):Sp:=fun vs H Q E=>∃ (t pa:Addr) (aa:aI) (k:Str) (ps:List Str),vs = [.ref t,.str k,.ref pa]/\FA H t aa/\fg aa/\aa.length<=14/\Nm k/\k ∉ keysOf aa/\H pa=some (.tup (ps.map V.str))/\ps.Nodup/\ps.length<=4/\(∀x∈ps,x∈keysOf aa) /\
 (aW (total (rowsOf (bo aa) ps)) (rowsOf (bo aa) ps)=none -> ∀a H',ao H H'->pJ C k (rowsOf (bo aa) ps) H' a->E (.ref C) (some a) H') /\ ∀t' told H',ao H H'->FA H' t' told->told.Perm (cN aa k ps)->gO told->fg told->aW (total (rowsOf (bo aa) ps)) (rowsOf (bo aa) ps)≠none->Q (.ref t') H'
theorem Mu {C t pa:Addr}{aa:aI}{k:Str}{ps:List Str}{H:Hp}{Q:VK}{E:XK} (ht:FA H t aa) (al:fg aa) (hl:aa.length<=14) (nm:Nm k) (hk:k ∉ keysOf aa) (hp:H pa=some (.tup (ps.map V.str))) (kY:ps.Nodup) (h4:ps.length<=4) (c9:∀x∈ps,x∈keysOf aa)
  (qn:aW (total (rowsOf (bo aa) ps)) (rowsOf (bo aa) ps)=none -> ∀a H',ao H H'->pJ C k (rowsOf (bo aa) ps) H' a->E (.ref C) (some a) H')
  (q:∀t' told H',ao H H'->FA H' t' told->told.Perm (cN aa k ps)->gO told->fg told->aW (total (rowsOf (bo aa) ps)) (rowsOf (bo aa) ps)≠none->Q (.ref t') H'):rq C [.ref t,.str k,.ref pa] H Q E:=by
 unfold rq;exact⟨t,pa,aa,k,ps,rfl,ht,al,hl,nm,hk,hp,kY,h4,c9,qn,q⟩
theorem aaQ:b8 ["family","kind","parents"] ["family","kind","parents"] (aJ DM):=⟨rfl,rfl,rfl,by decide +kernel,rfl,by decide +kernel,by decide +kernel⟩
theorem Zb {C fC fK fQ fW:Addr}{dC dK dQ dW:FuncData} (F:aX K "kind_made" "kind_made" DM f fd) (GC:aH P w K mg base aK 2 fC dC ["thing"] tY) (kC:keepIn K (.ref fC)=true) (bC:Binds K dC ["thing"] []) (mC:mg "check_name" = some (.ref fC))
  (GK:aH P w K mg base aK 2 fK dK ["family","thing"] pA) (kK:keepIn K (.ref fK)=true) (bK:Binds K dK ["family","thing"] []) (mK:mg "is_kind" = some (.ref fK))
  (GQ:aH P w K mg base aK 4 fQ dQ ["family","thing"] uj) (kQ:keepIn K (.ref fQ)=true) (bQ:Binds K dQ ["family","thing"] []) (mQ:mg "check_parents" = some (.ref fQ))
  (GW:aH P w K mg base (eN P w) 6 fW dW ["family","kind","parents"] (um C)) (kW:keepIn K (.ref fW)=true) (bW:Binds K dW ["family","kind","parents"] []) (mW:mg "with_parents" = some (.ref fW)):aH P w K mg base (eN P w) 7 f fd ["family","kind","parents"] (rq C):=by
 refine F.xT aaQ (fun vs H Q E h=>?_) (fun cdv A outer s H vs Q E hr h=>?_)
 ·unfold rq at h;obtain⟨t,pa,aa,k,ps,rfl,_⟩:=h;rfl
 ·unfold rq at h
  obtain⟨t,pa,aa,k,ps,rfl,ht,al,hl,nm,hk,hp,kY,h4,c9,qn,q⟩:=h;have nu:aV 6 _:=hr;have hr4:aV 4 _:=nu.mono (by decide)
  have iA:aV 2 _:=nu.mono (by decide)
  refine⟨_,aC (iR (bf GC iA rfl mC kC bC .nil bh (af (pv 1) ai)))
   (aC (dj (eG (bf GK iA rfl mK kK bK .nil bh (af (pv 0) (af (pv 1) ai)))) zi dh)
   (aC (iR (bf GQ hr4 rfl mQ kQ bQ .nil bh (af (pv 0) (af (pv 2) ai))))
   (aM (bg (bf GW nu rfl mW kW bW .nil DI (af (pv 0) (af (pv 1) (af (pv 2) ai)))))))),?_⟩
  have st:=K1 ht.1 hl nm kY h4 c9;have er:rowsOf (bo (cN aa k ps)) ps=rowsOf (bo aa) ps:=sH fun x h=>Kf st hk (sZ al (c9 x h));refine⟨_,rfl,X6 nm fun H1 S1=>?_⟩;refine⟨_,rfl,_,rfl,Dp (ht.same S1) nm fun H2 S2=>⟨false,?_,?_⟩⟩
  ·rw[jd hk]
  have S2:=S1.trans S2;refine⟨_,rfl,_,rfl,Y6 (ht.same S2) (S2 _ _ hp) kY h4 c9 fun H3 S3=>?_⟩;have S3:=S2.trans S3;refine⟨_,rfl,_,rfl,_,rfl,Y' (ht.same S3) (S3 _ _ hp) st (fun k' cJ hm hx hg a H4 S4 r4=>?_) fun t' told H4 S4 ft pm so fr=>?_⟩
  ·rcases ki.mp hm with⟨h1,h2⟩|e
   ·exact absurd ((sT hk (al _ h1)).ln st) (tU.no st ⟨cJ,hm,hx,hg⟩)
   ·cases e
    rw[er]at hg r4;exact qn hg a H4 (S3.trans S4) r4
  ·have Pf:Ln told k:=fr (k,ps) (pm.mem_iff.mpr (ki.mpr (.inr rfl))) fun x hx=>(wj st pm).mpr ((sT hk (sZ al (c9 x hx))).ln st)
   have Pg:fg told:=fun p hp=>by
    rcases ki.mp (pm.mem_iff.mp hp) with⟨h1,h2⟩|rfl
    ·exact(wj st pm).mpr ((sT hk (al _ h1)).ln st)
    ·exact Pf
   refine q t' told H4 (S3.trans S4) ft pm so Pg fun z=>?_;rw[<-er]at z;exact tU.no st ⟨ps,ki.mpr (.inr rfl),fun x hx=>(sT hk (sZ al (c9 x hx))).ln st,z⟩ ((wj st pm).mp Pf)
@[irreducible] def tH:Sp:=fun vs H Q _=>∃ (l:Addr) (ss:List Str),vs = [.ref l]/\H l=some (.lst (ss.map V.str))/\(ss.Pairwise fun a b=>gM a b=true)/\(∀x∈ss,Nm x)/\ss.length<=63 /\ ∀H',ao H H'->Q (.bl true) H'
theorem W5 {l:Addr}{ss:List Str}{H:Hp}{Q:VK}{E:XK} (hl:H l=some (.lst (ss.map V.str))) (so:ss.Pairwise fun a b=>gM a b=true) (nm:∀x∈ss,Nm x) (kH:ss.length<=63) (q:∀H',ao H H'->Q (.bl true) H'):tH [.ref l] H Q E:=by unfold tH;exact⟨l,ss,rfl,hl,so,nm,kH,q⟩
theorem X9:b8 ["names"] ["names"] (aJ Dg):=⟨rfl,rfl,rfl,by decide +kernel,rfl,by decide +kernel,by decide +kernel⟩
theorem W6 (F:aX K "are_rising" "are_rising" Dg f fd) (B2:gr mg) (bs:mg "set" = none):aH P w K mg base aK 1 f fd ["names"] tH:=by
 refine F.ok X9 (fun vs H Q E h=>?_) (fun cdv A outer s H vs Q E hr h=>?_)
 ·unfold tH at h;obtain⟨l,ss,rfl,_⟩:=h;rfl
 ·unfold tH at h
  obtain⟨l,ss,rfl,hl,so,nm,kH,q⟩:=h;have hu:=hr.units;refine⟨_,aM (bg (jo (tx hu) (pv 0) (a8 (Sn rfl) rfl B2.sorted boot_sorted (af (cY (CO rfl) rfl bs boot_set (af (pv 0) ai)) ai)) (cZ _))),?_⟩;refine⟨_,rfl,_,rfl,l,ss,rfl,.inl (ak.of hl),by omega,fun a ds ha nd mem=>?_⟩
  have Ph:=LG nd (YO so) mem;refine⟨a,ds,rfl,ag,by rw[Ph.length_eq];exact kH,fun D eV hD hp hs=>?_⟩
  obtain rfl:eV=ss:=SR hs so (hp.trans Ph);have S1:=(ay (o:=n9 P w a ds) ha).trans (ay (o:= .lst (eV.map V.str)) hD);have lay:(PyData.list (eV.map PyData.str)).canLay0=true:=jn nm;refine⟨.list (eV.map PyData.str),.list (eV.map PyData.str),.lst (S1 _ _ hl) (mr _ eV),.lst ag (mr _ eV),lay,lay,by show PyData.depthAll _+1<=60;rw[qD];decide,?_⟩
  have eqr:PyData.eqv (.list (eV.map PyData.str)) (.list (eV.map PyData.str))=true:=by
   show PyData.eqvAll _ _=true;rw[K0];exact gm rfl
  rw[eqr];exact q _ S1
@[irreducible] def tJ:Sp:=fun vs H Q _=>∃ (a b:Addr) (k:Str) (xs:List Str),vs = [.ref a]/\H a=some (.tup [.str k,.ref b])/\H b=some (.tup (xs.map V.str))/\Nm k/\(∀x∈xs,Nm x)/\xs.Nodup/\xs.length<=100 /\ ∀H',ao H H'->Q (.bl true) H'
theorem W7 {a b:Addr}{k:Str}{xs:List Str}{H:Hp}{Q:VK}{E:XK} (ha:H a=some (.tup [.str k,.ref b])) (hb:H b=some (.tup (xs.map V.str))) (hk:Nm k) (nm:∀x∈xs,Nm x) (nd:xs.Nodup) (hl:xs.length<=100) (q:∀H',ao H H'->Q (.bl true) H'):tJ [.ref a] H Q E:=by
 unfold tJ;exact⟨a,b,k,xs,rfl,ha,hb,hk,nm,nd,hl,q⟩
theorem X':b8 ["thing"] ["thing"] (aJ Dh):=⟨rfl,rfl,rfl,by decide +kernel,rfl,by decide +kernel,by decide +kernel⟩
theorem W8 {fN fR:Addr}{dN dR:FuncData} (F:aX K "is_pair" "is_pair" Dh f fd) (B:dJ mg) (B2:gr mg) (GN:aH P w K mg base aK 1 fN dN ["thing"] nU) (kN:keepIn K (.ref fN)=true) (bN:Binds K dN ["thing"] []) (mN:mg "is_name" = some (.ref fN))
  (GR:aH P w K mg base aK 2 fR dR ["thing"] rn) (kR:keepIn K (.ref fR)=true) (bR:Binds K dR ["thing"] []) (mR:mg "is_row" = some (.ref fR)):aH P w K mg base aK 3 f fd ["thing"] tJ:=by
 refine F.ok X' (fun vs H Q E h=>?_) (fun cdv A outer s H vs Q E hr h=>?_)
 ·unfold tJ at h;obtain⟨a,b,k,xs,rfl,_⟩:=h;rfl
 ·unfold tJ at h
  obtain⟨a,b,k,xs,rfl,ha,hb,hk,nm,nd,hl,q⟩:=h;have iA:aV 2 _:=hr;have cO:aV 1 _:=iA.mono (by decide)
  refine⟨_,aM (bg (o6 (a8 mj rfl B2.j8 jM (af (pv 0) (af (lh (v:= .ty "tuple") rfl B.tuple boot_tuple rfl) ai)))
   (o6 (jo zU (a8 iE rfl B.len gq (af (pv 0) ai)) aN (cZ _))
   (o6 (bf GN cO rfl mN kN bN .nil bh (af (cz mz (pv 0) aN (fun _ _=>rfl)) ai))
   (tm (bf GR iA rfl mR kR bR .nil bh (af (cz mz (pv 0) aN (fun _ _=>rfl)) ai))))))),?_⟩
  refine⟨_,rfl,⟨_,.inr ⟨"tuple",rfl⟩⟩,.ref a,.ty "tuple",.type "tuple",.type "tuple",true,rfl,rfl,.inl (.tup ha),rfl,true,rfl,?_⟩;refine⟨_,rfl,a,_,rfl,.inr (aG.of ha),rfl,true,rfl,?_⟩;refine⟨_,rfl,a,_,0,.str k,rfl,rfl,aG.of ha,(show cI [V.str k,V.ref b] ((0:Nat):Int)=some (.str k) from eT rfl),zI hk fun H1 S1=>⟨true,rfl,?_⟩⟩;have gY:=S1 _ _ ha;refine⟨_,rfl,a,_,1,.ref b,rfl,rfl,aG.of gY,(show cI [V.str k,V.ref b] ((1:Nat):Int)=some (.ref b) from eT rfl),rw_sp (S1 _ _ hb) nm nd hl fun H2 S2=>?_⟩;exact q _ (S1.trans S2)
end
theorem Up {X:Cx} (K:Frag) (h:X.K=K):dY X (.builtin "len") (fun xs H Q=>∃p ys,xs = [.ref p]/\(ak K H p ys\/aG K H p ys)/\Q (.int ys.length) H):=by subst h;exact iE
section
variable{P:Program}{w:World}{K:Frag}{mg:Str->Option Value}{base:Heap}{f:Addr}{fd:FuncData}
@[irreducible] def tZ:Sp:=fun vs H Q _=>∃ (t:Addr) (aa:aI),vs = [.ref t]/\FA H t aa/\fg aa/\gO aa /\ ∀H',ao H H'->Q (.bl true) H'
theorem Ya {t:Addr}{aa:aI}{H:Hp}{Q:VK}{E:XK} (ht:FA H t aa) (al:fg aa) (so:gO aa) (q:∀H',ao H H'->Q (.bl true) H'):tZ [.ref t] H Q E:=by unfold tZ;exact⟨t,aa,rfl,ht,al,so,q⟩
theorem Zc:b8 ["thing"] ["thing"] (aJ nQ):=⟨rfl,rfl,rfl,by decide +kernel,rfl,by decide +kernel,by decide +kernel⟩
abbrev eF1:Expr:=eY (ud (wG (tG (cb (cu nQ) 0)) 1))
abbrev eF2:Expr:=eY (ud (tG (cb (cu nQ) 1)))
abbrev eF3:Expr:=eY (ud (tG (cb (cu nQ) 2)))
theorem Nt:bX ["thing"] (aJ nQ) ["pair"] [none] (cj eF1):=⟨rfl,by decide +kernel,by decide +kernel,rfl,cU (by decide +kernel),by decide +kernel⟩
theorem Ex:bX ["thing"] (aJ nQ) ["kind","parents"] [none,none] (cj eF2):=⟨rfl,by decide +kernel,by decide +kernel,rfl,cU (by decide +kernel),by decide +kernel⟩
theorem Ey:bX ["thing"] (aJ nQ) ["kind","parents","thing"] [none,none,some 0] (cj eF3):=⟨rfl,by decide +kernel,by decide +kernel,rfl,cU (by decide +kernel),by decide +kernel⟩
theorem Yb {C fP fR fA fL:Addr}{dP dR dA dL:FuncData} (F:aX K "is_family" "is_family" nQ f fd) (B:dJ mg) (B2:gr mg) {ci:Option Value} (mC:mg "Ring" = some (.ref C)) (qC:fc K C ci=true) (me:mroIn K C (.ref C)=some true)
  (GP:aH P w K mg base aK 3 fP dP ["thing"] tJ) (kP:keepIn K (.ref fP)=true) (bP:Binds K dP ["thing"] []) (mP:mg "is_pair" = some (.ref fP))
  (GR:aH P w K mg base aK 1 fR dR ["names"] tH) (kR:keepIn K (.ref fR)=true) (bR:Binds K dR ["names"] []) (mR:mg "are_rising" = some (.ref fR))
  (GA:aH P w K mg base aK 3 fA dA ["family","thing"] qS) (kA:keepIn K (.ref fA)=true) (bA:Binds K dA ["family","thing"] []) (mA:mg "are_parents" = some (.ref fA))
  (GL:aH P w K mg base (eN P w) 5 fL dL ["family"] (oY C)) (kL:keepIn K (.ref fL)=true) (bL:Binds K dL ["family"] []) (mL:mg "lines_of" = some (.ref fL)):aH P w K mg base aK 6 f fd ["thing"] tZ:=by
 refine F.ok Zc (fun vs H Q E h=>?_) (fun cdv A outer s H vs Q E hr h=>?_)
 ·unfold tZ at h;obtain⟨t,aa,rfl,_⟩:=h;rfl
 ·unfold tZ at h
  obtain⟨t,aa,rfl,hA,al,so,q⟩:=h;obtain⟨ok,ws,ht,hf⟩:=id hA;have gK:∀p∈aa,p.2.Nodup/\p.2.length<=4:=fun p hp=>⟨ok.kY p hp,ok.four p hp⟩;have oE:aV 5 _:=hr;have qk:aV 3 _:=oE.mono (by decide)
  have cO:aV 1 _:=oE.mono (by decide)
  have hlen:=hf.length;have bw:=ok.bw;have nmp:∀p∈aa,∀x∈p.2,Nm x:=fun p hp x hx=>by obtain⟨z,hz,rfl⟩:=ok.up p hp x hx;exact ok.nm z hz
  refine⟨_,aC (dj (PW.pt (pw_or (fq (eG (a8 mj rfl B2.j8 jM (af (pv 0) (af (lh (v:= .ty "tuple") rfl B.tuple boot_tuple rfl) ai)))))
    (pw_or1 (fq (eG (a8 (qF rfl) rfl B.all boot_all (af (dv rfl Nt (jN (pv 0)) (fun s H fp=>⟨aU (i:=0) Nt.nd rfl (Or.inl rfl),eF,bf GP qk rfl mP kP bP .nil bh (af (pv 0) ai)⟩)) ai))))))) (aM (bg gE)) dh)
   (aC (dj (fq (eG (bf GR cO rfl mR kR bR .nil bh (af (dv rfl Ex (jN (pv 0)) (fun s H fp=>⟨CZ (n:=2) K rfl rfl (eW (aU (i:=0) Ex.nd rfl (Or.inl rfl)) (eW (aU (i:=1) Ex.nd rfl (Or.inl rfl)) lj)),eF,pv 0⟩)) ai)))) (aM (bg gE)) dh)
   (aC (dj (fq (eG (a8 (qF rfl) rfl B.all boot_all (af (dv rfl Ey (jN (pv 0)) (fun s H fp=>⟨CZ (n:=2) K rfl rfl (eW (aU (i:=0) Ey.nd rfl (Or.inl rfl)) (eW (aU (i:=1) Ey.nd rfl (Or.inl rfl)) lj)),eF,bf GA qk rfl mA kA bA .nil bh (af (pv 2) (af (pv 1) ai))⟩)) ai)))) (aM (bg gE)) dh)
   (aM (WK (fun pins D=>aM (bg (jo zU (a8 Cs rfl B.len gq (af (CN GL oE rfl mL kL bL (af (pv 0) ai)) ai)) (a8 (Up K rfl) rfl B.len gq (af (pv 0) ai)) (cZ _)))) rfl rfl rfl rfl rfl mC qC (fun a=>aM (bg gE)))))),?_⟩
  refine⟨_,rfl,⟨_,.inr ⟨"tuple",rfl⟩⟩,.ref t,.ty "tuple",.type "tuple",.type "tuple",true,rfl,rfl,.inl (.tup ht),rfl,true,rfl,?_⟩;refine⟨_,rfl,t,rfl,⟨_,aG.of ht⟩,fun p hp=>?_⟩;refine jK (xs:=ws) (fun i ys τ H1=>∃t0:Option V,τ = [t0]/\ys=(List.replicate i true).map V.bl/\ao H H1/\H1 p=some (.lst ys)) ⟨none,rfl,rfl,ay hp,ag⟩ (fun i ys τ H1 ⟨_,_,_,z,z2⟩=>⟨z2,aG.of (z _ _ ht)⟩) ?_ ?_
  ·rintro i x ys τ H1 hx ⟨t0,rfl,rfl,S1,h1⟩
   have aP:i < ws.length:=(bU.mp hx).1;obtain⟨r,cW,a,b,rfl,ha,hb⟩:=lr (hf.same S1) hx;have hr:=gB cW;refine⟨_,rfl,W7 ha hb (ok.nm r hr) (nmp r hr) (gK r hr).1 (by have:=(gK r hr).2;omega) fun H2 S2=>⟨S2 _ _ h1,by rw[ax,vv,aE];omega,cw_next aP ⟨_,rfl,?_,fun b u e=>?_,ag⟩⟩⟩
   ·rw[y6,bc];rfl
   ·rw[ah (aq e hp)];exact S2 _ _ (S1 _ _ e)
  rintro ys τ H1 ⟨t0,rfl,rfl,S1,h1⟩;refine⟨p,_,rfl,ak.of h1,_,rfl,?_⟩;have Bi:(List.replicate ws.length true).all id=true:=by simp
  rw[Bi];have qj:=S1 _ _ ht;have ou:=hf.same S1;refine⟨_,rfl,t,rfl,⟨_,aG.of qj⟩,fun p2 ix=>?_⟩;refine jK (xs:=ws) (fun i ys τ H2=>∃t0 t1:Option V,τ = [t0,t1]/\ys=((aa.take i).map (·.1)).map V.str/\H2=upd H1 p2 (.lst ys)) ⟨none,none,rfl,rfl,rfl⟩ (fun i ys τ H2 ⟨_,_,_,_,z⟩=>by rw[z];exact⟨ag,aG.of (by rw[ah (aq qj ix)];exact qj)⟩) ?_ ?_
  ·rintro i x ys τ H2 hx ⟨t0,t1,rfl,rfl,rfl⟩
   have aP:i < ws.length:=(bU.mp hx).1;obtain⟨r,cW,a,b,rfl,ha,hb⟩:=lr ou hx;have tk:aa.take (i+1)=aa.take i ++ [r]:=by rw[df,cW];rfl
   refine⟨a,_,rfl,aG.of (by rw[ah (aq ha ix)];exact ha),rfl,_,_,rfl,_,_,rfl,rfl,?_⟩
   refine⟨_,rfl,ag,by rw[ax,ax,cK,aE];omega,cw_next aP ⟨_,_,rfl,?_,by rw[iQ]⟩⟩
   rw[tk,bc,bc];rfl
  rintro ys τ H2 ⟨t0,t1,rfl,rfl,rfl⟩;rw[hlen,du];have S2:=S1.trans (ay (o:= .lst ((aa.map (·.1)).map V.str)) ix);refine W5 ag so (fun x hx=>by obtain⟨r,hr,rfl⟩:=aS.mp hx;exact ok.nm r hr) (by rw[ax];omega) fun H3 S3=>⟨true,rfl,?_⟩
  have S3:=S2.trans S3;have Pj:=S3 _ _ ht;refine⟨_,rfl,t,rfl,⟨_,aG.of Pj⟩,fun p3 ym=>?_⟩;refine jK (xs:=ws) (fun i ys τ H4=>∃t0 t1:Option V,τ = [t0,t1,some (.ref t)]/\ys=(List.replicate i true).map V.bl/\ao H3 H4/\H4 p3=some (.lst ys)) ⟨none,none,rfl,rfl,ay ym,ag⟩ (fun i ys τ H4 ⟨_,_,_,_,z,z2⟩=>⟨z2,aG.of (z _ _ Pj)⟩) ?_ ?_
  ·rintro i x ys τ H4 hx ⟨t0,t1,rfl,rfl,S4,h4⟩
   have aP:i < ws.length:=(bU.mp hx).1;have r6:=S3.trans S4;obtain⟨r,cW,a,b,rfl,ha,hb⟩:=lr (hf.same r6) hx;have hr:=gB cW;refine⟨a,_,rfl,aG.of ha,rfl,_,_,rfl,_,_,rfl,rfl,?_⟩;refine⟨_,rfl,_,rfl,LI (hA.same r6) hb (gK r hr).1 (gK r hr).2 (fun x hx=>by obtain⟨z,hz,rfl⟩:=ok.up r hr x hx;exact aS.mpr ⟨z,hz,rfl⟩) fun H5 S5=>⟨S5 _ _ h4,by rw[ax,vv,aE];omega,cw_next aP ⟨_,_,rfl,?_,fun b u e=>?_,ag⟩⟩⟩
   ·rw[y6,bc];rfl
   ·rw[ah (aq e ym)];exact S5 _ _ (S4 _ _ e)
  rintro ys τ H4 ⟨t0,t1,rfl,rfl,S4,h4⟩;refine⟨p3,_,rfl,ak.of h4,_,rfl,?_⟩;rw[Bi];have r6:=S3.trans S4;refine⟨_,rfl,CU (r6 _ _ ht) (hf.same r6) ok (fun k' cJ hm hx hg=>absurd (al (k',cJ) hm) (tU.no ok ⟨cJ,hm,hx,hg⟩)) fun d kvs H5 hd S5 h5 _ _ aaR=>?_⟩;refine⟨d,kvs,rfl,h5,_,rfl,t,_,rfl,.inr (aG.of (S5 _ _ (r6 _ _ ht))),rfl,?_⟩;have e1:kvs.length=ws.length:=by rw[aaR.mpr al,hlen]
  have e2:decide (V.int (kvs.length:Int)=V.int (ws.length:Int))=true:=gm (by rw[e1])
  rw[e2];exact q _ (r6.trans S5)
end
def cV:Expr->Option V
 |.Constant .none _ _=>some .aF
 |.Constant (.bool b) _ _=>some (.bl b)
 |.Constant (.int i) _ _=>some (.int i)
 |.Constant (.str x) _ _=>some (.str x)
 |.UnaryOp .USub (.Constant (.int i) _ _) _=>some (.int (-i))
 |_=>none
section
variable{X:Cx}
theorem Zd {e:Expr}{v:V} (h:cV e=some v):PE X e (tC v):=by
 unfold cV at h;split at h
 ·cases h;exact jr
 ·cases h;exact gE
 ·cases h;exact aN
 ·cases h;exact lu
 ·cases h;exact fun pins s σ H Q I q=>wM wq aN pins s σ H Q I ⟨_,rfl,q⟩
 ·cases h
theorem V8 {e:Expr}{v:V}{es:List Expr} (h:cV e=some v):starEach (e::es) X.env=(false,eval e X.env)::starEach es X.env:=by
 unfold cV at h;split at h <;> first|rfl|cases h
theorem Kg {rest:List Expr}{t:TA} (hr:PA X rest t):∀ {es:List Expr}{vs:List V},es.map cV=vs.map some->PA X (es++rest) (fun σ H Q=>t σ H fun xs H2=>Q (vs++xs) H2)
 |[],[],_=>hr
 |[],v::vs,h=>by cases h
 |e::es,[],h=>by cases h
 |e::es,v::vs,h=>by
  rw[cA,cA,List.cons.injEq]at h;exact af (Zd h.1) (Kg hr h.2) (V8 h.1)
end
def eM:List (Nat×Str):= [(0,"NoName"),(1,"NoKind"),(2,"NoParents"),(3,"Taken"),(4,"InUse"),(5,"NoEntry"),(6,"NoThing"),(7,"NoNumber"),(8,"NotAbove"),(9,"Shut"),(10,"NoText"),(11,"NoRow"),(12,"Ring"),(13,"Round"),(14,"Missing"),(15,"Endless")]
structure uo (K:Frag) (mg:Str->Option Value) (c:Nat->Addr):Prop where
 n:∀p∈eM,mg p.2=some (.ref (c p.1))
 ve:mg "ValueError" = none
 k:∀i j,i=4\/i=12->j < 16->kitOne K (.ref (c i)) (.ref (c j))=some (decide (i=j))
 v:∀i,i=4\/i=12->kitOne K (.ref (c i)) (.type "ValueError")=some true
def iT:List Str:= ["name","kind","parents","taken","use","entry","thing","number","above","shut","text","row","ring","round","missing","endless","other"]
def wH (i:Nat):List Bool:=(List.range 16).map (fun j=>decide (i=j)) ++ [false]
theorem W9:bootBuiltins "ValueError" = some (.type "ValueError"):=by decide +kernel
section
variable{P:Program}{w:World}{K:Frag}{mg:Str->Option Value}{base:Heap}{f:Addr}{fd:FuncData}
structure oF (K:Frag) (c:Nat->Addr) (H:Hp) (x:Option Value) (a:Addr) (i:Nat):Prop where
 ob:∃n dx,H a=some (eU n (c i) dx a) /\ ∀d,dx=some d -> ∃fs,H d=some (d7 d fs)
 cl:eI K (c i)
 it:i=4\/i=12
 hx:x=some (.ref a)
 tl:nY H x
theorem oF.same {c:Nat->Addr}{H H':Hp}{x:Option Value}{a:Addr}{i:Nat} (h:oF K c H x a i) (s:ao H H'):oF K c H' x a i:=
 ⟨let ⟨n,dx,e,r⟩:=h.ob;⟨n,dx,s _ _ e,fun d ed=>let ⟨fs,z⟩:=r d ed;⟨fs,s _ _ z⟩⟩,h.cl,h.it,h.hx,h.tl.same s⟩
theorem aaS {c:Nat->Addr}{H:Hp}{x:Option Value}{a:Addr}{i j:Nat}{Q:VK} (T:uo K mg c) (h:oF K c H x a i) (hj:j < 16) (q:Q (.bl (decide (i=j))) H):Mm K [.ref a,.ref (c j)] H Q:=by
 obtain⟨n,dx,e,r⟩:=h.ob;exact⟨a,n,c i,dx,.ref (c j),.ref (c j),_,rfl,.inl ⟨_,rfl,rfl⟩,e,h.cl,r,T.k i j h.it hj,q⟩
@[irreducible] def uq (K:Frag) (c:Nat->Addr):Option Value->Sp:=fun x vs H Q _=>∃ (a:Addr) (i:Nat),vs = [.ref a]/\oF K c H x a i /\ ∀l H',ao H H'->H' l=some (.lst [.str (iT.getD i "")])->Q (.ref l) H'
theorem Mv {c:Nat->Addr}{x:Option Value}{a:Addr}{i:Nat}{H:Hp}{Q:VK}{E:XK} (h:oF K c H x a i) (q:∀l H',ao H H'->H' l=some (.lst [.str (iT.getD i "")])->Q (.ref l) H'):uq K c x [.ref a] H Q E:=by unfold uq;exact⟨a,i,rfl,h,q⟩
abbrev Gu:List Str:= ["_law_e","_law_some","_law_words"]
theorem rz:b8 Gu ["_law_e"] (aJ nN):=⟨rfl,rfl,rfl,by decide +kernel,rfl,by decide +kernel,by decide +kernel⟩
abbrev eCl:Expr:=xm (cb (cu nN) 7)
theorem Ez:bX Gu (aJ nN) ["_law_word","_law_truth"] [none,none] (cj eCl):=⟨rfl,by decide +kernel,by decide +kernel,rfl,cU (by decide +kernel),by decide +kernel⟩
def picked (i n:Nat):List Str:=((iT.zip (wH i)).take n).filterMap fun p=>if p.2=true then some p.1 else none
theorem Uq:∀i,i < 16->picked i 17 = [iT.getD i ""]:=by decide +kernel
def DE (e:Expr):List Expr:=match e with|.List es _=>es|_=>[]
def lstP (e:Expr):Pos:=match e with|.List _ p=>p|_=>⟨0,0,0,0⟩
def Nu (s:Stmt):Pos:=match s with|.Assign _ _ p=>p|_=>⟨0,0,0,0⟩
def Nv (s:Stmt):List Expr:=match s with|.Assign t _ _=>t|_=>[]
def Nw (e:Expr):Expr:=match e with|.BinOp _ _ b _=>b|_=>.Constant .none 0 ⟨0,0,0,0⟩
def Ze (e:Expr):Expr:=match e with|.BinOp a _ _ _=>a|_=>.Constant .none 0 ⟨0,0,0,0⟩
def aaT (e:Expr):Pos:=match e with|.BinOp _ _ _ p=>p|_=>⟨0,0,0,0⟩
abbrev SC (k:Nat):Stmt:=cb (cu nN) k
@[irreducible] def jb (k:Nat):List Expr:=match k with|0=>DE (eK (SC 0))|5=>DE (eK (SC 5))|k=>DE (Nw (eK (SC k)))
abbrev sA (k:Nat):Stmt:= .Assign (Nv (SC k)) (.List (jb k) (lstP (eK (SC k)))) (Nu (SC k))
abbrev sB (k:Nat):Stmt:= .Assign (Nv (SC k)) (.BinOp (Ze (eK (SC k))) .Add (.List (jb k) (lstP (Nw (eK (SC k))))) (aaT (eK (SC k)))) (Nu (SC k))
theorem bdC:cu nN = [sA 0,sB 1,sB 2,sB 3,SC 4,sA 5,sB 6,SC 7]:=by unfold sA sB jb;rfl
def EA (x:Str) (e:Expr):Bool:=match e with|.Call (.Name g _) [.Name y _,.Name z _] [] _=>g == "isinstance" && y == "_law_e" && z==x|_=>false
def ur:List (Nat×Str)->List Expr->Bool
 |[],[]=>true
 |p::js,e::es=>EA p.2 e && ur js es
 |_,_=>false
theorem ch0:ur (eM.take 4) (jb 0)=true:=by unfold jb;decide +kernel
theorem ch1:ur ((eM.drop 4).take 4) (jb 1)=true:=by unfold jb;decide +kernel
theorem ch2:ur ((eM.drop 8).take 4) (jb 2)=true:=by unfold jb;decide +kernel
theorem ch3:ur ((eM.drop 12).take 4) (jb 3)=true:=by unfold jb;decide +kernel
theorem chA:(jb 5).map cV=((iT.take 12).map V.str).map some:=by unfold jb;decide +kernel
theorem chB:(jb 6).map cV=((iT.drop 12).map V.str).map some:=by unfold jb;decide +kernel
theorem K2 {X:Cx}{es:List Expr}{vs:List V} (h:es.map cV=vs.map some):PA X es (fun _ H Q=>Q vs H):=by
 have:=Kg (X:=X) ai h;rw[gP]at this;exact fun pos pins s σ H Q I q=>this pos pins s σ H Q I (by show Q (vs ++ []) H;rw[gP];exact q)
abbrev vf (P:Program) (w:World) (K:Frag) (mg:Str->Option Value) (base:Heap) (f:Addr) (cdv:Value) (A:Around) (outer:List Env) (s:Shared) (H:Hp) (E:XK):Cx:=tQ P w K mg base Gu "_law_classes" (aJ nN) f cdv A outer s H E
section
variable{cdv:Value}{A:Around}{outer:List Env}{s0:Shared}{H0:Hp}{E0:XK}{c:Nat->Addr}
def tI (K:Frag) (c:Nat->Addr) (x:Option Value) (js:List (Nat×Str)):TA:=fun σ H Q=>∃a i,σ[0]? = some (some (.ref a))/\oF K c H x a i/\Q (js.map fun p=>.bl (decide (i=p.1))) H
theorem glC:∀p∈eM,(aJ nN).names.lookup p.2=some .globalImplicit/\(p.2==("__debug__" : Str))=false/\p.1 < 16:=by decide +kernel
theorem Yc (B2:gr mg) (T:uo K mg c) {p:Nat×Str}{e:Expr} (hp:p∈eM) (h:EA p.2 e=true) :
  PE (vf P w K mg base f cdv A outer s0 H0 E0) e (fun σ H Q=>∃a i,σ[0]? = some (some (.ref a))/\oF K c H A.handled a i/\Q (.bl (decide (i=p.1))) H) /\ ∀es,starEach (e::es) (vf P w K mg base f cdv A outer s0 H0 E0).env=(false,eval e (vf P w K mg base f cdv A outer s0 H0 E0).env)::starEach es (vf P w K mg base f cdv A outer s0 H0 E0).env:=by
 unfold EA at h;split at h
 ·rename_i g p0 y p1 z p2 p3
  simp only[vw,cT]at h;obtain⟨⟨rfl,rfl⟩,rfl⟩:=h;obtain⟨hg,hd,lt⟩:=glC p hp;have h0:PE (vf P w K mg base f cdv A outer s0 H0 E0) (.Call (.Name "isinstance" p0) [.Name "_law_e" p1,.Name p.2 p2] [] p3) _:=a8 Cr rfl B2.j8 jM (af (pv 0) (af (C3 (v:= .ref (c p.1)) hg (T.n p hp) rfl hd) ai));exact⟨fun pins s σ H Q I ⟨a,i,e,ct,q⟩=>h0 pins s σ H Q I ⟨_,e,aaS T ct lt q⟩,fun es=>rfl⟩
 ·cases h
theorem wI (B2:gr mg) (T:uo K mg c):∀ {js:List (Nat×Str)}{es:List Expr},ur js es=true->(∀p∈js,p∈eM)->PA (vf P w K mg base f cdv A outer s0 H0 E0) es (tI K c A.handled js)
 |[],[],_,_=>fun pos pins s σ H Q I ⟨a,i,e,ct,q⟩=>ai pos pins s σ H Q I q
 |[],_::_,h,_=>by cases h
 |_::_,[],h,_=>by cases h
 |p::js,e::es,h,hj=>by
  obtain⟨h1,h2⟩:=jI.mp h;obtain⟨he,hs⟩:=Yc (P:=P) (w:=w) (base:=base) (f:=f) (cdv:=cdv) (A:=A) (outer:=outer) (s0:=s0) (H0:=H0) (E0:=E0) B2 T (hj p aZ) h1;have hr:=wI B2 T h2 fun q hq=>hj q (bJ _ hq);refine fun pos pins s σ H Q I ⟨a,i,e,ct,q⟩=>af he hr (hs es) pos pins s σ H Q I ⟨a,i,e,ct,?_⟩;exact⟨a,i,e,ct,q⟩
abbrev jc (i:Nat) (js:List (Nat×Str)):List V:=js.map fun p=>.bl (decide (i=p.1))
theorem zS {H H1:Hp}{l l2:Addr}{xs ys:List V}{Q:VK} (hl:H1 l=some (.lst xs)) (z:xs.length+ys.length<=40) (S:ao H H1) (h2:H1 l2=none) (k:∀l3 H3,ao H H3->H3 l3=some (.lst (xs++ys))->H l3=none->Q (.ref l3) H3):MI (.ref l) (.ref l2) (upd H1 l2 (.lst ys)) Q:=
 ⟨l,l2,xs,ys,rfl,rfl,by rw[ah (aq hl h2)];exact hl,ag,by rw[aE];omega,fun p hp=>k p _ (S.trans ((ay h2).trans (ay hp))) ag (S.free ((ay h2).free hp))⟩
theorem Zf (F:aX K "_law_classes" "_law_classes" nN f fd) (B2:gr mg) (bz:mg "zip" = none) (T:uo K mg c):wU P w K mg base 1 f fd ["_law_e"] (uq K c):=by
 refine F.Oe rz (fun x vs H Q E h=>?_) (fun cdv A outer s H vs Q E hr h=>?_)
 ·unfold uq at h;obtain⟨a,i,rfl,_⟩:=h;rfl
 ·unfold uq at h
  obtain⟨a,i,rfl,ct,q⟩:=h;have in4:∀k,∀p∈(eM.drop k).take 4,p∈eM:=fun k p hp=>BU (vE hp);rw[bdC];refine⟨_,aC (br (i:=1) rz.nd rfl (Or.inl rfl) (c8 (wI B2 T ch0 (in4 0))))
   (aC (br (i:=1) rz.nd rfl (Or.inl rfl) (cG mE (pv 1) (c8 (wI B2 T ch1 (in4 4)))))
   (aC (br (i:=1) rz.nd rfl (Or.inl rfl) (cG mE (pv 1) (c8 (wI B2 T ch2 (in4 8)))))
   (aC (br (i:=1) rz.nd rfl (Or.inl rfl) (cG mE (pv 1) (c8 (wI B2 T ch3 (in4 12)))))
   (aC (iR (iU kf qu qv k9 (pv 1) (af (Xp (a8 Cr rfl B2.j8 jM (af (pv 0) (af (lh (v:= .ty "ValueError") rfl T.ve W9 rfl) ai)))) ai)))
   (aC (br (i:=2) rz.nd rfl (Or.inl rfl) (c8 (K2 chA)))
   (aC (br (i:=2) rz.nd rfl (Or.inl rfl) (cG mE (pv 2) (c8 (K2 chB))))
   (aM (bg (VT Ez (WM rfl bz (af (pv 2) (af (pv 1) ai))) (fun s H fp=>⟨WL (n:=2) (K:=K) (hv:=A.handled) rfl rfl (eW (aU (i:=0) Ez.nd rfl (Or.inl rfl)) (eW (aU (i:=1) Ez.nd rfl (Or.inl rfl)) lj)),lb (eG (pv 1)),pv 0⟩)))))))))),?_⟩
  have sz:∀n:Nat,n<=100->n<=sizeLine:=fun n h=>by rw[aE];omega
  refine⟨a,i,rfl,ct,sz 4 (by decide),fun l1 h1=>?_⟩
  have S1:=ay (o:= .lst (jc i (eM.take 4))) h1;have e1:upd H l1 (.lst (jc i (eM.take 4))) l1=_:=ag;generalize upd H l1 (.lst (jc i (eM.take 4)))=H1 at S1 e1 ⊢;refine⟨_,rfl,a,i,rfl,ct.same S1,sz 4 (by decide),fun l2 h2=>zS e1 (by show 8<=40;decide) S1 h2 fun l3 H3 S3 e3 _=>?_⟩
  refine⟨_,rfl,a,i,rfl,ct.same S3,sz 4 (by decide),fun l4 h4=>zS e3 (by show 12<=40;decide) S3 h4 fun l5 H5 S5 e5 _=>?_⟩
  refine⟨_,rfl,a,i,rfl,ct.same S5,sz 4 (by decide),fun l6 h6=>zS e5 (by show 16<=40;decide) S5 h6 fun l7 H7 S7 e7 hn7=>?_⟩
  refine⟨_,rfl,.inl ⟨rfl,_,ak.of e7⟩,_,rfl,?_⟩;obtain⟨nn,dx,eo,rr⟩:=(ct.same S7).ob;refine⟨a,nn,c i,dx,.ty "ValueError",.type "ValueError",true,rfl,.inr ⟨_,rfl,rfl⟩,eo,ct.cl,rr,T.v i ct.it,true,rfl,l7,_,_,rfl,rfl,e7,sz 17 (by decide),?_⟩
  have e8:upd H7 l7 (.lst (jc i (eM.take 4)++jc i ((eM.drop 4).take 4)++jc i ((eM.drop 8).take 4)++jc i ((eM.drop 12).take 4) ++ [.bl (!true)])) l7=some (.lst ((wH i).map V.bl)):=ag;have S8:ao H (upd H7 l7 (.lst (jc i (eM.take 4)++jc i ((eM.drop 4).take 4)++jc i ((eM.drop 8).take 4)++jc i ((eM.drop 12).take 4) ++ [.bl (!true)]))):=fun b o hb=>by rw[ah (aq hb hn7)];exact S7 _ _ hb
  generalize upd H7 l7 (.lst (jc i (eM.take 4)++jc i ((eM.drop 4).take 4)++jc i ((eM.drop 8).take 4)++jc i ((eM.drop 12).take 4) ++ [.bl (!true)]))=H8 at e8 S8 ⊢;refine⟨sz 12 (by decide),fun l9 h9=>?_⟩
  have S9:=ay (o:= .lst ((iT.take 12).map V.str)) h9;have e9:upd H8 l9 (.lst ((iT.take 12).map V.str)) l9=_:=ag;generalize upd H8 l9 (.lst ((iT.take 12).map V.str))=H9 at S9 e9 ⊢;refine⟨_,rfl,sz 5 (by decide),fun l10 AL=>zS e9 (by show 17<=40;decide) S9 AL fun l11 EZ Pk rM _=>?_⟩
  have ew:(iT.take 12).map V.str++(iT.drop 12).map V.str=iT.map V.str:=by rw[<-bc,Rq]
  rw[ew]at rM;have AN:=Pk _ _ e8;have Gv:=S8.trans Pk;refine⟨_,rfl,_,rfl,l11,l7,rfl,⟨_,ak.of rM⟩,⟨_,ak.of AN⟩,fun p hp=>?_⟩;refine UY (xs:=iT.map V.str) (ys:=(wH i).map V.bl) 17 rfl (aO 17) (fun n zs τ H1=>∃t0 t1:Option V,τ = [t0,t1]/\zs=(picked i n).map V.str/\ao EZ H1/\H1 p=some (.lst zs)) ⟨none,none,rfl,rfl,ay hp,ag⟩ (fun n zs τ H1 ⟨_,_,_,_,z1,z2⟩=>⟨z2,ak.of (z1 _ _ rM),ak.of (z1 _ _ AN),(ct.tl.same Gv).same z1⟩) ?_ ?_
  ·rintro n x y zs τ H1 t hx hy ⟨t0,t1,rfl,rfl,ql,yD⟩ ht
   have hl:n < 17:=(bU.mp hx).1;have hw:∃wd,iT[n]? = some wd/\x = .str wd:=by
    rw[gA]at hx;obtain⟨wd,h1,h2⟩:=iD.mp hx;exact⟨wd,h1,h2.symm⟩
   have hb:∃b,(wH i)[n]? = some b/\y = .bl b:=by
    rw[gA]at hy;obtain⟨b,h1,h2⟩:=iD.mp hy;exact⟨b,h1,h2.symm⟩
   obtain⟨wd,hw,rfl⟩:=hw;obtain⟨b,hb,rfl⟩:=hb;have ep:picked i (n+1)=picked i n++if b=true then [wd] else []:=by
    unfold picked;rw[df,RM (z:=(wd,b)) |>.mpr ⟨hw,hb⟩,List.filterMap_append];cases b <;> rfl
   have lp:(picked i n).length<=17:=by
    have h1:(picked i n).length<=((iT.zip (wH i)).take n).length:=Q8 _ _;rw[cK]at h1;omega
   have St:=ql.trans (ay (o:= .tup [V.str wd,.bl b]) ht);refine⟨t,_,rfl,aG.of ag,rfl,(ct.tl.same Gv).same St,_,_,rfl,_,_,rfl,rfl,?_⟩;refine⟨_,rfl,b,rfl,?_⟩;have Pn:upd H1 t (.tup [V.str wd,.bl b]) p=some (.lst ((picked i n).map V.str)):=by rw[ah (aq yD ht)];exact yD
   cases b with
   |true =>
    refine⟨_,rfl,Pn,by rw[ax,aE];omega,cw_next hl ⟨_,_,rfl,?_,fun b o hb=>?_,ag⟩⟩
    ·rw[ep,bc];rfl
    ·rw[ah (aq hb hp)];exact St _ _ hb
   |false=>exact cw_next hl ⟨_,_,rfl,by rw[ep];simp,St,Pn⟩
  ·rintro zs τ H1 ⟨t0,t1,rfl,rfl,ql,yD⟩
   rw[Uq i (by rcases ct.it with rfl|rfl <;> decide)]at yD
   exact q p H1 (Gv.trans ql) yD
end
end
structure LnP (aa:List (Str×List Str)) (L:Str->List Str):Prop where
 mem:∀p∈aa,∀y,y∈L p.1 ↔ y=p.1 \/ ∃x∈p.2,y∈L x
 len:∀p∈aa,∀x∈p.2,(L x).length < (L p.1).length
 le8:∀p∈aa,(L p.1).length<=8
 kZ:∀p∈aa,∀y∈L p.1,∃q∈aa,q.1=y
theorem Fm.Po {ks:List Str}{L Ps:Str->List Str} (F:Fm ks L Ps) (h8:ks.length<=8):LnP (cM Ps ks) L:=by
 have mem:∀ {p:Str×List Str},p∈cM Ps ks->p.1∈ks/\p.2=Ps p.1:=fun {p} hp=>by
  obtain⟨x,hx,rfl⟩:=aS.mp hp;exact⟨hx,rfl⟩
 have self:∀x∈ks,x∈L x:=fun x hx=>by obtain⟨o,_,e⟩:=F.ln x hx;rw[e];exact aZ
 refine⟨fun p hp y=>?_,fun p hp x hx=>?_,fun p hp=>?_,fun p hp y hy=>?_⟩
 ·obtain⟨h1,h2⟩:=mem hp
  rw[h2];obtain⟨o,hm,hL⟩:=F.ln _ h1;obtain⟨n1,n2,n3⟩:=F.ps _ h1;obtain⟨⟨_,s2⟩,_⟩:=sound _ _ rfl (fun r hr=>(F.qR n1 n3 r hr).1) o hm;rw[hL,a9,s2]
  constructor
  ·rintro(h|⟨r,hr,hy⟩)
   ·exact .inl h
   ·rcases nJ.mp hr with⟨z,hz,rfl⟩|rfl
    ·exact .inr ⟨z,hz,hy⟩
    ·exact .inr ⟨y,hy,self y (n3 y hy)⟩
  ·rintro(h|⟨z,hz,hy⟩)
   ·exact .inl h
   ·exact .inr ⟨L z,nJ.mpr (.inl ⟨z,hz,rfl⟩),hy⟩
 ·obtain⟨h1,h2⟩:=mem hp
  rw[h2]at hx;obtain⟨o,hm,hL⟩:=F.ln _ h1;obtain⟨n1,_,n3⟩:=F.ps _ h1;obtain⟨_,_,h5⟩:=F.order n1 n3 hm;have:=len_sub (F.ld x (n3 x hx)).1 fun y hy=>h5 (L x) (nJ.mpr (.inl ⟨x,hx,rfl⟩)) y hy;rw[hL,d4];omega
 ·obtain⟨h1,h2⟩:=mem hp
  exact dU (len_sub (F.ld _ h1).1 (F.ld _ h1).2) h8
 ·obtain⟨h1,h2⟩:=mem hp
  exact⟨(y,Ps y),aS.mpr ⟨y,(F.ld _ h1).2 y hy,rfl⟩,rfl⟩
theorem V9 {ks:List Str}{L Ps:Str->List Str} (F:Fm ks L Ps):∀p∈cM Ps ks,∀x∈p.2,∃q∈cM Ps ks,q.1=x:=fun p hp x hx=>by
 obtain⟨y,hy,rfl⟩:=aS.mp hp;exact⟨(x,Ps x),aS.mpr ⟨x,(F.ps y hy).2.2 x hx,rfl⟩,rfl⟩
theorem CB {ks:List Str}{Ps:Str->List Str}{x:Str} (h:x∈ks):(x,Ps x)∈cM Ps ks:=aS.mpr ⟨x,h,rfl⟩
theorem Fm.famSt {ks:List Str}{L Ps:Str->List Str} (F:Fm ks L Ps) (nd:ks.Nodup) (nm:∀x∈ks,Nm x) (h8:ks.length<=8) {aa:aI} (pm:aa.Perm (cM Ps ks)):ck aa:=by
 refine ck.perm ⟨by rw[Cg];exact nd,by unfold cM;rw[ax];omega,fun p hp=>?_,V9 F,fun p hp=>?_,fun p hp=>?_⟩ pm
 ·obtain⟨x,hx,rfl⟩:=aS.mp hp;exact nm x hx
 ·obtain⟨x,hx,rfl⟩:=aS.mp hp;exact(F.ps x hx).2.1
 ·obtain⟨x,hx,rfl⟩:=aS.mp hp;exact(F.ps x hx).1
theorem Fm.has {ks:List Str}{L Ps:Str->List Str} (F:Fm ks L Ps) (h8:ks.length<=8) {S:Str->Prop}{aa:aI} (h:∀x∈ks,S x->(x,Ps x)∈aa /\ ∀y∈Ps x,S y):∀x∈ks,S x->bV aa x (L x):=by
 have lp:=F.Po h8;have key:∀n,∀x∈ks,S x->(L x).length=n->bV aa x (L x):=by
  intro n
  induction n using Nat.strongRecOn with
  |_ n ih =>
   intro x hx sx e;obtain⟨o,hg,hL⟩:=F.ln x hx;obtain⟨h1,h2⟩:=h x hx sx;have ln:∀y∈Ps x,(L y).length < (L x).length:=lp.len _ (CB hx);rw[hL];exact .mk h1 (fun y hy=>ih _ (by rw[<-e];exact ln y hy) y ((F.ps x hx).2.2 y hy) (h2 y hy) rfl) hg
 exact fun x hx sx=>key _ x hx sx rfl
theorem Fm.aaU {ks:List Str}{L Ps:Str->List Str} (F:Fm ks L Ps) (h8:ks.length<=8) {aa:aI} (pm:aa.Perm (cM Ps ks)):∀x∈ks,bV aa x (L x):=fun x hx=>F.has h8 (S:=fun _=>True) (fun y hy _=>⟨pm.mem_iff.mpr (CB hy),fun _ _=>True.intro⟩) x hx True.intro
theorem Ve {a b:Str} (h:gM a b=true) (h':gM b a=true):False:=by
 have:=LV h h';rw[zy]at this;cases this
theorem zT:∀ {a b:aI},gO a->gO b->a.Perm b->a=b
 |[],b,_,_,p=>p.nil_eq
 |x::a,[],_,_,p=>absurd p.length_eq (by simp)
 |x::a,y::b,sa,sb,p=>by
  unfold gO at sa sb;rw[cA,List.pairwise_cons]at sa sb;have hx:=p.mem_iff.mp (aZ (a:=x) (l:=a));have hy:=p.mem_iff.mpr (aZ (a:=y) (l:=b));have e:x=y:=by
   rcases a9.mp hx with z|z
   ·exact z
   ·rcases a9.mp hy with z'|z'
    ·exact z'.symm
    ·exact(Ve (sb.1 _ (aS.mpr ⟨x,z,rfl⟩)) (sa.1 _ (aS.mpr ⟨y,z',rfl⟩))).elim
  subst e;rw[zT sa.2 sb.2 (List.Perm.cons_inv p)]
structure cF (H:Hp) (ks:List Str) (t d:Addr) (kvs:List (Key×V)) (L Ps:Str->List Str) (aa:aI):Prop where
 fv:∃ws,H t=some (.tup ws)/\bE H ws aa
 pm:aa.Perm (cM Ps ks)
 fm:Fm ks L Ps
 nd:ks.Nodup
 nm:∀x∈ks,Nm x
 k8:ks.length<=8
 hd:H d=some (.dK kvs)
 hk:kvs.map (·.1)=ks.map Sum.inr
 pl:∀x∈ks,fV H kvs Ps x
 so:gO aa
section
variable{H H':Hp}{ks:List Str}{t d:Addr}{kvs:List (Key×V)}{L Ps:Str->List Str}{aa:aI}
theorem cF.same (R:cF H ks t d kvs L Ps aa) (S:ao H H'):cF H' ks t d kvs L Ps aa:=
 ⟨let ⟨ws,a,b⟩:=R.fv;⟨ws,S _ _ a,b.same S⟩,R.pm,R.fm,R.nd,R.nm,R.k8,S _ _ R.hd,R.hk,fun x hx=>let ⟨a,e,q⟩:=R.pl x hx;⟨a,e,S _ _ q⟩,R.so⟩
theorem cF.st (R:cF H ks t d kvs L Ps aa):ck aa:=R.fm.famSt R.nd R.nm R.k8 R.pm
theorem cF.fa (R:cF H ks t d kvs L Ps aa):FA H t aa:=⟨R.st,R.fv⟩
theorem cF.mem (R:cF H ks t d kvs L Ps aa) {p:Str×List Str}:p∈aa ↔ p.1∈ks/\p.2=Ps p.1:=by
 rw[R.pm.mem_iff]
 constructor
 ·intro h
  obtain⟨x,hx,rfl⟩:=aS.mp h;exact⟨hx,rfl⟩
 ·rintro⟨h1,h2⟩
  exact aS.mpr ⟨p.1,h1,by rw[<-h2]⟩
theorem cF.key (R:cF H ks t d kvs L Ps aa) {x:Str}:x∈keysOf aa ↔ x∈ks:=
 ⟨fun h=>by obtain⟨p,hp,rfl⟩:=aS.mp h;exact(R.mem.mp hp).1,fun h=>aS.mpr ⟨(x,Ps x),R.mem.mpr ⟨h,rfl⟩,rfl⟩⟩
theorem cF.len (R:cF H ks t d kvs L Ps aa):aa.length=ks.length:=by rw[R.pm.length_eq];unfold cM;rw[ax]
theorem cF.has (R:cF H ks t d kvs L Ps aa) {x:Str} (hx:x∈ks):bV aa x (L x):=R.fm.aaU R.k8 R.pm x hx
theorem cF.all (R:cF H ks t d kvs L Ps aa):fg aa:=fun p hp=>(R.has (R.mem.mp hp).1).ln R.st
theorem cF.line (R:cF H ks t d kvs L Ps aa) {x:Str} (hx:x∈ks):bo aa x=L x:=(R.has hx).line R.st
theorem cF.ln8 (R:cF H ks t d kvs L Ps aa) {x:Str} (hx:x∈ks):(L x).length<=8:=dU (len_sub (R.fm.ld x hx).1 (R.fm.ld x hx).2) R.k8
theorem cF.pin (R:cF H ks t d kvs L Ps aa) {x y:Str} (hx:x∈ks) (hy:y∈Ps x):y∈ks:=(R.fm.ps x hx).2.2 y hy
theorem cF.get (R:cF H ks t d kvs L Ps aa) {x:Str} (hx:x∈ks):∃a,ig H d (.str x) (some (.ref a))/\H a=some (.lst ((Ps x).map V.str)):=by
 obtain⟨a,e,h⟩:=R.pl x hx;exact⟨a,.inl ⟨kvs,Sum.inr x,.inl R.hd,rfl,e.symm⟩,h⟩
end
def pairD (p:Str×List Str):PyData:= .tuple [.str p.1,.tuple (p.2.map PyData.str)]
theorem wk {H:Hp}:∀ {ws:List V}{aa:aI},bE H ws aa->gD H ws (aa.map pairD)
 |_,_,.nil=>.nil
 |_,_,.cons ⟨a,b,e,q,r⟩ t=>by
  subst e;exact .cons (.tup q (.cons (.str _) (.cons (.tup r (mr H _)) .nil))) (wk t)
theorem tf {aa:aI} (st:ck aa):(PyData.tuple (aa.map pairD)).canLay0=true:=by
 have key:∀l:aI,(∀p∈l,p∈aa)->PyData.canLayAll0 (l.map pairD)=true:=by
  intro l
  induction l with
  |nil=>intro _;rfl
  |cons p l ih =>
   intro h;have hp:=h p aZ;have h1:(PyData.tuple ([p.1].map PyData.str)).canLay0=true:=jn (xs:= [p.1]) fun x hx=>by rw[gn.mp hx];exact st.nm p hp
   have h2:(PyData.tuple (p.2.map PyData.str)).canLay0=true:=jn fun x hx=>by
    obtain⟨q,hq,rfl⟩:=st.up p hp x hx;exact st.nm q hq
   have h3:=ih fun q hq=>h q (bJ _ hq);simp only[PyData.canLay0,PyData.canLayAll0,cA,HM,IB,pairD]at h1 h2 h3 ⊢;rw[h1,h2];simpa using h3
 exact key aa fun _ h=>h
theorem Kh (aa:aI):(PyData.tuple (aa.map pairD)).depth<=60:=by
 have key:∀l:aI,PyData.depthAll (l.map pairD)<=3:=by
  intro l
  induction l with
  |nil=>exact bG _
  |cons p l ih =>
   have h2:PyData.depthAll (p.2.map PyData.str)=0:=qD _;simp only[cA,PyData.depthAll,pairD,PyData.depth]at ih ⊢;rw[h2];omega
 have:=key aa;simp only[PyData.depth];omega
theorem L8 {H:Hp}{t t':Addr}{aa:aI}{Q:VK} (h:FA H t aa) (h':FA H t' aa) (q:Q (.bl true) H):Aa (.ref t) (.ref t') H Q:=by
 obtain⟨st,ws,e,fv⟩:=h;obtain⟨_,gN,e',Gw⟩:=h';refine⟨_,_,.tup e (wk fv),.tup e' (wk Gw),tf st,tf st,Kh aa,?_⟩;rw[BW _ (tf st)];exact q
theorem Yd {H:Hp}{t t':Addr}{aa:aI}{Q:VK} (h:FA H t aa) (h':FA H t' aa) (q:Q (.bl false) H):Ab (.ref t) (.ref t') H Q:=by
 obtain⟨st,ws,e,fv⟩:=h;obtain⟨_,gN,e',Gw⟩:=h';refine⟨_,_,.tup e (wk fv),.tup e' (wk Gw),tf st,tf st,Kh aa,?_⟩;rw[BW _ (tf st)];exact q
theorem W' {H:Hp}{a b:Addr}{xs:List Str}{Q:VK} (ha:H a=some (.tup (xs.map V.str))) (hb:H b=some (.tup (xs.map V.str))) (h1:∀x∈xs,Nm x) (q:Q (.bl false) H):Ab (.ref a) (.ref b) H Q:=by
 refine⟨.tuple (xs.map PyData.str),.tuple (xs.map PyData.str),.tup ha (mr _ xs),.tup hb (mr _ xs),jn h1,jn h1,by show PyData.depthAll _+1<=60;rw[qD];decide,?_⟩
 rw[BW (.tuple (xs.map PyData.str)) (jn h1)];exact q
theorem Xa {H:Hp}{a b:Addr}{xs:List Str}{Q:VK} (ha:H a=some (.lst (xs.map V.str))) (hb:H b=some (.lst (xs.map V.str))) (h1:∀x∈xs,Nm x) (q:Q (.bl true) H):Aa (.ref a) (.ref b) H Q:=by
 refine⟨.list (xs.map PyData.str),.list (xs.map PyData.str),.lst ha (mr _ xs),.lst hb (mr _ xs),jn h1,jn h1,by show PyData.depthAll _+1<=60;rw[qD];decide,?_⟩
 rw[BW (.list (xs.map PyData.str)) (jn h1)];exact q
section
variable{P:Program}{w:World}{K:Frag}{mg:Str->Option Value}{base:Heap}{f:Addr}{fd:FuncData}
@[irreducible] def uu:Sp:=fun vs H Q _=>∃ (p l:Addr) (ys:List Str),vs = [.ref p,.ref l]/\dZ p H/\H l=some (.lst (ys.map V.str))/\ys.length<=20 /\
 ∀ (o:Addr) (own rest:List Str) (H':Hp),(own++rest).Perm ys->own.length<=4->dZ p H'->(∀b u,H b=some u->b≠p->H' b=some u)->H' o=some (.lst (own.map V.str))->Q (.ref o) H'
theorem Zg {p l:Addr}{ys:List Str}{H:Hp}{Q:VK}{E:XK} (hp:dZ p H) (hn:H l=some (.lst (ys.map V.str))) (hl:ys.length<=20)
  (q:∀ (o:Addr) (own rest:List Str) (H':Hp),(own++rest).Perm ys->own.length<=4->dZ p H'->(∀b u,H b=some u->b≠p->H' b=some u)->H' o=some (.lst (own.map V.str))->Q (.ref o) H'):uu [.ref p,.ref l] H Q E:=by
 unfold uu;exact⟨p,l,ys,rfl,hp,hn,hl,q⟩
abbrev nSo:List Str:= ["_law_pot_here","_law_kinds","_law_left","_law_own","_law_turn"]
theorem Ag:b8 nSo ["_law_pot_here","_law_kinds"] (aJ Dm):=⟨rfl,rfl,rfl,by decide +kernel,rfl,by decide +kernel,by decide +kernel⟩
theorem Zh {fD:Addr}{dD:FuncData} (F:aX K "_law_some_of" "_law_some_of" Dm f fd) (B:dJ mg) (GD:aH P w K mg base aK 1 fD dD ["_law_pot_here","_law_many"] my) (kD:keepIn K (.ref fD)=true) (bD:Binds K dD ["_law_pot_here","_law_many"] []) (mD:mg "_law_digit" = some (.ref fD)) :
  aH P w K mg base aK 2 f fd ["_law_pot_here","_law_kinds"] uu:=by
 refine F.ok Ag (fun vs H Q E h=>?_) (fun cdv A outer s H vs Q E hr h=>?_)
 ·unfold uu at h;obtain⟨p,l,ys,rfl,_⟩:=h;rfl
 ·unfold uu at h
  obtain⟨p,l0,ys,rfl,hp,Gq,hlen,q⟩:=h;have cO:aV 1 _:=hr;refine⟨_,aC (br (i:=2) Ag.nd rfl (Or.inl rfl) (cY oU rfl B.list boot_list (af (pv 1) ai)))
   (aC (br (i:=3) Ag.nd rfl (Or.inl rfl) (c8 ai))
   (aC (jO ke rfl (nK rfl B.range (af (a8 (Ci rfl) rfl B.min boot_min (af (a8 iE rfl B.len gq (af (pv 2) ai)) (af (bf GD cO rfl mD kD bD .nil bh (af (pv 0) (af aN ai))) ai))) ai)) (aU (i:=4) Ag.nd rfl (Or.inl rfl))
    (aM (iR (iU kf qu qv k9 (pv 3)
     (af (iU kf ain aio Km (pv 2) (af (bf GD cO rfl mD kD bD .nil bh (af (pv 0) (af (a8 iE rfl B.len gq (af (pv 2) ai)) ai))) ai)) ai)))))
   (aM (bg (pv 3))))),?_⟩
  refine⟨_,rfl,l0,_,rfl,.inl (ak.of Gq),fun l hl=>⟨bG _,fun fa iB=>?_⟩⟩;have qg:p≠l:=hp.ne hl;have P1:bp p H (upd H l (.lst (ys.map V.str))):=(bp.refl hp).new hl;have nj:p≠fa:=P1.ok.ne iB;have rZ:l≠fa:=aq ag iB;have P0:bp p H (upd (upd H l (.lst (ys.map V.str))) fa (.lst [])):=P1.new iB;have hfH:H fa=none:=(ay hl).free iB;have Gx:upd (upd H l (.lst (ys.map V.str))) fa (.lst []) l=some (.lst (ys.map V.str)):=by rw[ah rZ];exact ag
  have Pp:upd (upd H l (.lst (ys.map V.str))) fa (.lst []) fa=some (.lst []):=ag;generalize upd (upd H l (.lst (ys.map V.str))) fa (.lst [])=H0 at P0 Gx Pp ⊢;refine⟨_,rfl,l,_,rfl,.inl (ak.of Gx),?_⟩;refine⟨_,rfl,mq (p:=p) (m:=5) P0.ok (by decide) (by decide) fun d H1 d0 d1 qh=>?_⟩
  have P1:=P0.trans qh;have cy:=qh.kp _ _ Gx (aQ qg);have ou:=qh.kp _ _ Pp (aQ nj);refine⟨_,d,rfl,?_⟩;rw[ax];obtain⟨N,hN,hN4,hNl⟩:∃N:Nat,(if d < (ys.length:Int) then d else (ys.length:Int))=N/\N<=4/\N<=ys.length:=by
   split
   ·exact⟨d.toNat,by omega,by omega,by omega⟩
   ·exact⟨ys.length,rfl,by omega,aO _⟩
  rw[hN];refine⟨(N:Int),rfl,by omega,by omega,qE (fun i σ H1=>∃ (zs ls:List Str) (v3:Option V),σ = [some (.ref p),some (.ref l0),some (.ref l),some (.ref fa),v3]/\zs.length=i/\(zs++ls).Perm ys/\dZ p H1/\(∀b u,H b=some u->b≠p->H1 b=some u)/\H1 l=some (.lst (ls.map V.str))/\H1 fa=some (.lst (zs.map V.str)))
   ⟨[],ys,none,rfl,rfl,oS _,P1.ok,fun b u e n=>P1.kp b u e n,cy,ou⟩ ?_ ?_⟩
  ·rintro i σ H1 hi ⟨zs,ls,v3,rfl,hz,hP,Gy,Gz,cy,ou⟩
   have DS:=hP.length_eq;rw[de]at DS;have ye:i < N:=by simpa using hi
   have Ei:0 < ls.length:=by omega
   refine⟨_,rfl,.inl ⟨rfl,_,ak.of ou⟩,_,rfl,.inl ⟨rfl,_,ak.of cy⟩,_,rfl,_,rfl,l,_,rfl,.inl (ak.of cy),?_⟩;refine mq (p:=p) Gy (by rw[ax];omega) (by rw[ax];omega) fun d H2 d0 d1 pb=>?_
   have dk:=pb.kp _ _ cy (aQ qg);have rQ:=pb.kp _ _ ou (aQ nj);rw[ax]at d1;have hd:d.toNat < ls.length:=by omega
   refine⟨l,_,d,d.toNat,.str ls[d.toNat],rfl,rfl,dk,by omega,by omega,BB d0 (by rw[ax];exact d1),by rw[gA,bH hd];rfl,?_⟩
   have gI:(upd H2 l (.lst ((ls.map V.str).eraseIdx d.toNat))) fa=some (.lst (zs.map V.str)):=by rw[ah (aQ rZ)];exact rQ
   refine⟨fa,_,_,rfl,rfl,gI,by rw[ax,aE];omega,?_⟩
   refine⟨zs ++ [ls[d.toNat]],ls.eraseIdx d.toNat,_,rfl,by rw[de];simp[hz],?_,?_,fun b u e n1=>?_,?_,?_⟩
   ·refine List.Perm.trans ?_ hP
    rw[HN];exact Rz zs (Ce ls _ hd)
   ·obtain⟨x,y,e,r⟩:=pb.ok
    exact⟨x,y,by rw[ah nj,ah qg];exact e,r⟩
   ·rw[ah (aq e hfH),ah (aq e hl)];exact pb.kp _ _ (Gz b u e n1) n1
   ·rw[ah rZ,ag,Cz]
   ·rw[ag,bc];rfl
  ·rintro σ H1 ⟨zs,ls,v3,rfl,hz,hP,Gy,Gz,cy,ou⟩
   have yc:zs.length=N:=by simpa using hz
   exact⟨_,rfl,q fa zs ls H1 hP (by omega) Gy Gz ou⟩
def Nx (H:Hp) (l:Addr) (k:Str) (rows:List (List Str)):Prop:= ∃ (l2 p:Addr) (us:List V) (W:List Wi),H l=some (.lst [.ref l2,.str k,.ref p])/\H l2=some (.lst [.str "ring"])/\H p=some (.tup us)/\eZ H us W/\ly (mG rows) 10 W
noncomputable abbrev rws (aa:aI) (ps:List Str):List (List Str):=rowsOf (bo aa) ps
structure jq (H:Hp) (t pa:Addr) (aa:aI) (k:Str) (ps:List Str):Prop where
 fa:FA H t aa
 al:fg aa
 le:aa.length<=14
 nm:Nm k
 nk:k ∉ keysOf aa
 hp:H pa=some (.tup (ps.map V.str))
 nd:ps.Nodup
 p4:ps.length<=4
 kZ:∀x∈ps,x∈keysOf aa
theorem jq.same {H H':Hp}{t pa:Addr}{aa:aI}{k:Str}{ps:List Str} (h:jq H t pa aa k ps) (S:ao H H'):jq H' t pa aa k ps:=⟨h.fa.same S,h.al,h.le,h.nm,h.nk,S _ _ h.hp,h.nd,h.p4,h.kZ⟩
@[irreducible] def uv:Sp:=fun vs H Q _=>∃ (t pa:Addr) (aa:aI) (k:Str) (ps:List Str),vs = [.ref t,.str k,.ref pa]/\jq H t pa aa k ps /\
 (aW (total (rws aa ps)) (rws aa ps)=none -> ∀r l H',ao H H'->H' r=some (.tup [.aF,.ref l])->Nx H' l k (rws aa ps)->Q (.ref r) H') /\
 ∀r t' l told H',ao H H'->H' r=some (.tup [.ref t',.ref l])->FA H' t' told->told.Perm (cN aa k ps)->gO told->fg told->aW (total (rws aa ps)) (rws aa ps)≠none->Q (.ref r) H'
theorem Zi {t pa:Addr}{aa:aI}{k:Str}{ps:List Str}{H:Hp}{Q:VK}{E:XK} (m:jq H t pa aa k ps)
  (qn:aW (total (rws aa ps)) (rws aa ps)=none -> ∀r l H',ao H H'->H' r=some (.tup [.aF,.ref l])->Nx H' l k (rws aa ps)->Q (.ref r) H')
  (q:∀r t' l told H',ao H H'->H' r=some (.tup [.ref t',.ref l])->FA H' t' told->told.Perm (cN aa k ps)->gO told->fg told->aW (total (rws aa ps)) (rws aa ps)≠none->Q (.ref r) H'):uv [.ref t,.str k,.ref pa] H Q E:=by
 unfold uv;exact⟨t,pa,aa,k,ps,rfl,m,qn,q⟩
abbrev nTr:List Str:= ["_law_family_here","_law_kind","_law_own","_law_told","_law_refusal","_law_e"]
theorem uw:b8 nTr ["_law_family_here","_law_kind","_law_own"] (aJ Dy):=⟨rfl,rfl,rfl,by decide +kernel,rfl,by decide +kernel,by decide +kernel⟩
theorem Zj {c:Nat->Addr}{B0 fL fM:Addr}{dL dM:FuncData} (F:aX K "_law_tried" "_law_tried" Dy f fd) (B:dJ mg) (B2:gr mg) (T:uo K mg c)
  (mB:mg "LineError" = some (.ref B0)) (qB:∃ci,fc K B0 ci=true) (me:mroIn K (c 12) (.ref B0)=some true) (xc:eI K (c 12)) (fk:findIn K (.ref (c 12)) "kind" = some none) (fr:findIn K (.ref (c 12)) "ring" = some none)
  (GL:wU P w K mg base 1 fL dL ["_law_e"] (uq K c)) (kL:keepIn K (.ref fL)=true) (bL:Binds K dL ["_law_e"] []) (mL:mg "_law_classes" = some (.ref fL))
  (GM:aH P w K mg base (eN P w) 7 fM dM ["family","kind","parents"] (rq (c 12))) (kM:keepIn K (.ref fM)=true) (bM:Binds K dM ["family","kind","parents"] []) (mM:mg "kind_made" = some (.ref fM)) :
  aH P w K mg base aK 8 f fd ["_law_family_here","_law_kind","_law_own"] uv:=by
 obtain⟨ci,qB⟩:=qB;refine F.ok uw (fun vs H Q E h=>?_) (fun cdv A outer s H vs Q E hr h=>?_)
 ·unfold uv at h;obtain⟨t,pa,aa,k,ps,rfl,_⟩:=h;rfl
 ·unfold uv at h
  obtain⟨t,pa,aa,k,ps,rfl,mm,qn,q⟩:=h;have vg:aV 7 _:=hr;have cO:aV 1 _:=vg.mono (by decide)
  refine⟨_,aC (Xr (i:=3) (j:=4) rfl uw.nd rfl rfl (by decide) rfl rfl (af jr (af (c8 ai) ai)) rfl)
   (aC (Vz (j:=5) (C:=B0) (fun pins D=>aM (br (i:=3) uw.nd rfl (Or.inl rfl) (CN GM vg rfl mM kM bM (af (pv 0) (af (pv 1) (af (pv 2) ai))))))
     uw.nd rfl rfl rfl rfl rfl rfl rfl mB qB (fun a=>aC (br (i:=4) uw.nd rfl (Or.inl rfl) (c8 (af (KN GL (cO.marked _) rfl mL kL bL bh (af (pv 5) ai)) (af jr (af jr ai)))))
      (aM (dj (eG (a8 Cr rfl B2.j8 jM (af (pv 5) (af (C3 (v:= .ref (c 12)) rfl (T.n (12,"Ring") (by decide)) rfl rfl) ai))))
       (aM (br (i:=4) uw.nd rfl (Or.inl rfl) (c8 (af (KN GL (cO.marked _) rfl mL kL bL bh (af (pv 5) ai)) (af (Dd (pv 5)) (af (Dd (pv 5)) ai)))))) dh))))
   (aM (bg (kj (af (pv 3) (af (pv 4) ai)))))),?_⟩
  have sz:∀n:Nat,n<=100->n<=sizeLine:=fun n h=>by rw[aE];omega
  refine⟨bG _,fun r0 rY=>⟨_,_,rfl,?_⟩⟩;have S0:=ay (o:= .lst []) rY;generalize upd H r0 (.lst [])=H0 at S0 ⊢;have m0:=mm.same S0;refine⟨_,rfl,_,rfl,_,rfl,Mu m0.fa m0.al m0.le m0.nm m0.nk m0.hp m0.nd m0.p4 m0.kZ (fun hn a H1 S1 ro=>?_) fun t' told H1 S1 ft pm so al ne=>?_⟩
  ·refine⟨⟨c 12,rfl,me⟩,a,rfl,?_⟩
   obtain⟨cx,C',d,j4,p,us,W,ea,ed,ep,hW,rp,Fx,ec⟩:=ro;have ct:oF K c H1 (some (.ref a)) a 12:=⟨⟨_,_,ea,fun d' e=>by cases e;exact⟨_,ed⟩⟩,xc,by decide,rfl,⟨a,_,_,rfl,.inr ⟨cx,C',j4,ea,Fx,ec⟩⟩⟩
   refine⟨_,rfl,Mv ct fun l2 H2 S2 h2=>⟨sz 3 (by decide),fun l3 FQ=>?_⟩⟩
   have S3:=S2.trans (ay (o:= .lst [V.ref l2,.aF,.aF]) FQ);generalize upd H2 l3 (.lst [V.ref l2,.aF,.aF])=H3 at S3 ⊢;refine⟨_,rfl,a,some (.ref cx),c 12,some d,.ref (c 12),.ref (c 12),true,rfl,.inl ⟨_,rfl,rfl⟩,S3 _ _ ea,xc,(fun d' e=>by cases e;exact⟨_,S3 _ _ ed⟩),T.k 12 12 (by decide) (by decide),true,rfl,?_⟩
   refine⟨_,rfl,Mv (ct.same S3) fun l4 H4 S4 h4=>?_⟩;have S4:=S3.trans S4;refine⟨_,rfl,a,_,_,d,_,.str k,rfl,S4 _ _ ea,S4 _ _ ed,xc,fk,rfl,_,rfl,a,_,_,d,_,.ref p,rfl,S4 _ _ ea,S4 _ _ ed,xc,fr,rfl,sz 3 (by decide),fun l5 u4=>?_⟩
   have h4:H4 l4=some (.lst [.str "ring"]):=h4;have S5:=ay (o:= .lst [V.ref l4,.str k,.ref p]) u4;refine⟨_,rfl,_,rfl,sz 2 (by decide),fun r jB=>?_⟩
   have S6:=S5.trans (ay (o:= .tup [V.aF,.ref l5]) jB);have lN:=S4.trans S6;refine qn hn r l5 _ (S0.trans (S1.trans lN)) ag ⟨l4,p,us,W,?_,S6 _ _ h4,lN _ _ ep,hW.same lN,rp⟩;rw[ah (aq ag jB)];exact ag
  ·refine⟨_,rfl,_,rfl,sz 2 (by decide),fun r jB=>?_⟩
   have S2:=ay (o:= .tup [V.ref t',.ref r0]) jB;exact q r t' r0 told _ (S0.trans (S1.trans S2)) ag (ft.same S2) pm so al ne
end
theorem boot_int:bootBuiltins "int" = some (.type "int"):=by decide +kernel
theorem boot_bool:bootBuiltins "bool" = some (.type "bool"):=by decide +kernel
theorem eZ.get {H:Hp}:∀ {vs:List V}{W:List Wi}{i:Nat}{v:V},eZ H vs W->vs[i]? = some v -> ∃a w,v=V.ref a/\W[i]? = some w/\H a=some (.tup [.int w.1,.str w.2.1,.str w.2.2])
 |_,_,i,v,.nil,h=>by simp at h
 |_,_,0,v,.cons (b:=b) ⟨a,e,q⟩ r,h=>by
  have:v=V.ref a:=by rw[<-e];simpa using h.symm
  exact⟨a,b,this,rfl,q⟩
 |_,_,i+1,v,.cons _ r,h=>by
  obtain⟨a,w,e,q,z⟩:=eZ.get r (by simpa using h:_=some v)
  exact⟨a,w,e,by simpa using q,z⟩
theorem eZ.length {H:Hp}{vs:List V}{W:List Wi} (h:eZ H vs W):vs.length=W.length:=jF h
theorem JA {rows:List (List Str)}{i:Nat}{x n:Str} (h:mG rows (i,x,n)):∃r,rows[i]? = some r/\x∈r/\n∈r /\ ∃j j2:Nat,r[j]? = some x/\(∀m:Nat,m < j->r[m]? ≠ some x)/\r[j2]? = some n/\(∀m:Nat,m < j2->r[m]? ≠ some n)/\j < j2:=by
 obtain⟨pre,post,h0,h1,h2,h3,h4⟩:=h;have hn:n∈pre++x::post:=by simp[show n∈post from h1]
 obtain⟨j2,r8,EB⟩:=CS hn;refine⟨_,h0,by simp,hn,pre.length,j2,by simp,fun m hm=>?_,r8,EB,?_⟩
 ·rw[BA hm]
  intro z;exact h2 (gB z)
 ·by_cases z:pre.length < j2
  ·exact z
  ·by_cases e:j2=pre.length
   ·rw[e]at r8
    have:x=n:=by simpa using r8
    exact absurd this h4
   ·rw[BA (by omega)]at r8
    exact absurd (gB r8) h3
section
variable{P:Program}{w:World}{K:Frag}{mg:Str->Option Value}{base:Heap}{f:Addr}{fd:FuncData}
@[irreducible] def ux:Sp:=fun vs H Q _=>∃ (l a:Addr) (ws:List V) (rows:List (List Str)) (w:Wi),vs = [.ref l,.ref a]/\H l=some (.lst ws)/\eX (fun _=>True) H ws rows/\H a=some (.tup [.int w.1,.str w.2.1,.str w.2.2])/\mG rows w/\Q (.bl true) H
theorem Zk {l a:Addr}{ws:List V}{rows:List (List Str)}{w:Wi}{H:Hp}{Q:VK}{E:XK} (hl:H l=some (.lst ws)) (hR:eX (fun _=>True) H ws rows) (ha:H a=some (.tup [.int w.1,.str w.2.1,.str w.2.2])) (hw:mG rows w) (q:Q (.bl true) H):ux [.ref l,.ref a] H Q E:=by
 unfold ux;exact⟨l,a,ws,rows,w,rfl,hl,hR,ha,hw,q⟩
abbrev nLW:List Str:= ["_law_rows","_law_wish","_law_k","_law_a","_law_b"]
theorem Ah:b8 nLW ["_law_rows","_law_wish"] (aJ Dx):=⟨rfl,rfl,rfl,by decide +kernel,rfl,by decide +kernel,by decide +kernel⟩
theorem Zl (F:aX K "_law_is_wish" "_law_is_wish" Dx f fd) (B:dJ mg) (B2:gr mg) (bi:mg "int" = none) (bb:mg "bool" = none):aH P w K mg base aK 1 f fd ["_law_rows","_law_wish"] ux:=by
 refine F.ok Ah (fun vs H Q E h=>?_) (fun cdv A outer s H vs Q E hr h=>?_)
 ·unfold ux at h;obtain⟨l,a,ws,rows,w,rfl,_⟩:=h;rfl
 ·unfold ux at h
  obtain⟨l,a,ws,rows,⟨i,x,n⟩,rfl,hl,hR,ha,hw,q⟩:=h;refine⟨_,aC (dj (PW.pt (pw_or (fq (eG (a8 mj rfl B2.j8 jM (af (pv 1) (af (lh (v:= .ty "tuple") rfl B.tuple boot_tuple rfl) ai)))))
     (pw_or (d5 wN (a8 iE rfl B.len gq (af (pv 1) ai)) aN (cZ _))
     (pw_or (eG (a8 mj rfl B2.j8 jM (af (cz mz (pv 1) aN (fun _ _=>rfl)) (af (lh (v:= .ty "bool") rfl bb boot_bool rfl) ai))))
     (pw_or1 (fq (eG (a8 mj rfl B2.j8 jM (af (cz mz (pv 1) aN (fun _ _=>rfl)) (af (lh (v:= .ty "int") rfl bi boot_int rfl) ai)))))))))) (aM (bg gE)) dh)
   (aC (tq (pv 1) (pj rfl (eW (aU (i:=2) Ah.nd rfl (Or.inl rfl)) (eW (aU (i:=3) Ah.nd rfl (Or.inl rfl)) (eW (aU (i:=4) Ah.nd rfl (Or.inl rfl)) lj)))))
   (aC (dj (PW.pt (pw_or (d5 zV (pv 2) aN (cZ _))
     (pw_or (d5 Yo (pv 2) (a8 iE rfl B.len gq (af (pv 0) ai)) (cZ _))
     (pw_or (d5 zb (pv 3) (cz fX (pv 0) (pv 2) (fun _ _=>rfl)) rfl)
     (pw_or1 (d5 zb (pv 4) (cz fX (pv 0) (pv 2) (fun _ _=>rfl)) rfl)))))) (aM (bg gE)) dh)
   (aM (bg (jo zV (iU kf RW RX CJ (cz fX (pv 0) (pv 2) (fun _ _=>rfl)) (af (pv 3) ai))
     (iU kf RW RX CJ (cz fX (pv 0) (pv 2) (fun _ _=>rfl)) (af (pv 4) ai)) (cZ _)))))),?_⟩
  obtain⟨r,cW,ja,FF,j,j2,hj,j3,r8,EB,hjj⟩:=JA hw;have dH:i < rows.length:=(bU.mp cW).1;have xD:ws.length=rows.length:=jF hR;obtain⟨v,hv⟩:∃v,ws[i]? = some v:=⟨ws[i]'(by omega),bH _⟩
  obtain⟨b,r',rfl,jB,_,hb⟩:=qG hR hv;rw[cW]at jB;cases jB;have ha:H a=some (.tup [.int i,.str x,.str n]):=ha;have Ny:cI [V.int i,.str x,.str n] 0=some (V.int i):=(show cI [V.int i,.str x,.str n] ((0:Nat):Int)=some (V.int i) from eT rfl);have Ai:cI ws (i:Int)=some (.ref b):=eT hv;refine⟨_,rfl,⟨_,.inr ⟨"tuple",rfl⟩⟩,.ref a,.ty "tuple",.type "tuple",.type "tuple",true,rfl,rfl,.inl (.tup ha),rfl,true,rfl,?_⟩;refine⟨_,rfl,a,_,rfl,.inr (aG.of ha),rfl,_,rfl,?_⟩;refine⟨_,rfl,a,_,0,.int i,rfl,rfl,aG.of ha,Ny,⟨_,.inr ⟨"bool",rfl⟩⟩,.int i,.ty "bool",.type "int",.type "bool",false,rfl,rfl,.inl (.int _),rfl,false,rfl,?_⟩;refine⟨_,rfl,a,_,0,.int i,rfl,rfl,aG.of ha,Ny,⟨_,.inr ⟨"int",rfl⟩⟩,.int i,.ty "int",.type "int",.type "int",true,rfl,rfl,.inl (.int _),rfl,true,rfl,?_⟩;refine⟨_,rfl,a,_,rfl,aG.of ha,rfl,_,_,rfl,_,_,rfl,_,_,rfl,rfl,?_⟩;refine⟨_,rfl,i,0,rfl,rfl,_,rfl,?_⟩;rw[show decide ((i:Int) < 0)=false from jd (by omega)]
  refine⟨_,rfl,_,rfl,l,_,rfl,.inl (ak.of hl),i,ws.length,rfl,rfl,_,rfl,?_⟩;rw[show decide ((ws.length:Int)<=(i:Int))=false from jd (by omega)]
  refine⟨_,rfl,_,rfl,_,rfl,l,ws,i,.ref b,rfl,rfl,ak.of hl,Ai,b,_,rfl,.inl (ak.of hb),rfl,mf _,_,rfl,?_⟩;rw[aB rfl,nM,gm ja];refine⟨_,rfl,_,rfl,_,rfl,l,ws,i,.ref b,rfl,rfl,ak.of hl,Ai,b,_,rfl,.inl (ak.of hb),rfl,mf _,_,rfl,?_⟩;rw[aB rfl,nM,gm FF];refine⟨_,rfl,_,rfl,l,ws,i,.ref b,rfl,rfl,ak.of hl,Ai,.inl ⟨rfl,_,ak.of hb⟩,_,rfl,b,r,x,j,rfl,rfl,hb,hj,j3,?_⟩;refine⟨_,rfl,_,rfl,l,ws,i,.ref b,rfl,rfl,ak.of hl,Ai,.inl ⟨rfl,_,ak.of hb⟩,_,rfl,b,r,n,j2,rfl,rfl,hb,r8,EB,j,j2,rfl,rfl,?_⟩;show Q (.bl (decide ((j:Int) < (j2:Int)))) H;rw[show decide ((j:Int) < (j2:Int))=true from gm (by omega)]
  exact q
end
def aaV (e:Expr):Expr:=match e with|.Compare a _ _ _=>a|_=>.Constant .none 0 ⟨0,0,0,0⟩
section
variable{P:Program}{w:World}{K:Frag}{mg:Str->Option Value}{base:Heap}{f:Addr}{fd:FuncData}
@[irreducible] def t4:Sp:=fun vs H Q _=>∃ (l p:Addr) (ws us:List V) (rows:List (List Str)) (W:List Wi),vs = [.ref l,.ref p]/\H l=some (.lst ws)/\eX (fun _=>True) H ws rows/\(∀r∈rows,∀x∈r,Nm x)/\H p=some (.tup us)/\eZ H us W/\ly (mG rows) 10 W /\ ∀H',ao H H'->Q (.bl true) H'
theorem Ye {l p:Addr}{ws us:List V}{rows:List (List Str)}{W:List Wi}{H:Hp}{Q:VK}{E:XK} (hl:H l=some (.lst ws)) (hR:eX (fun _=>True) H ws rows) (nm:∀r∈rows,∀x∈r,Nm x) (hp:H p=some (.tup us)) (hW:eZ H us W) (hr:ly (mG rows) 10 W) (q:∀H',ao H H'->Q (.bl true) H'):t4 [.ref l,.ref p] H Q E:=by
 unfold t4;exact⟨l,p,ws,us,rows,W,rfl,hl,hR,nm,hp,hW,hr,q⟩
abbrev Bj:List Str:= ["_law_rows","_law_ring","_law_begins"]
theorem Nz:b8 Bj ["_law_rows","_law_ring"] (aJ nT):=⟨rfl,rfl,rfl,by decide +kernel,rfl,by decide +kernel,by decide +kernel⟩
abbrev eG1:Expr:=eY (ud (wG (tG (cb (cu nT) 0)) 2))
abbrev eG2:Expr:=eK (cb (cu nT) 1)
abbrev eG3:Expr:=aaV (wG (xm (cb (cu nT) 2)) 0)
theorem NA:bX Bj (aJ nT) ["_law_wish","_law_rows"] [none,some 0] (cj eG1):=⟨rfl,by decide +kernel,by decide +kernel,rfl,cU (by decide +kernel),by decide +kernel⟩
theorem NB:bX Bj (aJ nT) ["_law_wish"] [none] (cj eG2):=⟨rfl,by decide +kernel,by decide +kernel,rfl,cU (by decide +kernel),by decide +kernel⟩
theorem NC:bX Bj (aJ nT) ["_law_wish"] [none] (cj eG3):=⟨rfl,by decide +kernel,by decide +kernel,rfl,cU (by decide +kernel),by decide +kernel⟩
theorem Yf {fI:Addr}{dI:FuncData} (F:aX K "_law_is_ring" "_law_is_ring" nT f fd) (B:dJ mg) (B2:gr mg) (bs:mg "set" = none) (GI:aH P w K mg base aK 1 fI dI ["_law_rows","_law_wish"] ux) (kI:keepIn K (.ref fI)=true) (bI:Binds K dI ["_law_rows","_law_wish"] []) (mI:mg "_law_is_wish" = some (.ref fI)) :
  aH P w K mg base aK 2 f fd ["_law_rows","_law_ring"] t4:=by
 refine F.ok Nz (fun vs H Q E h=>?_) (fun cdv A outer s H vs Q E hr h=>?_)
 ·unfold t4 at h;obtain⟨l,p,ws,us,rows,W,rfl,_⟩:=h;rfl
 ·unfold t4 at h
  obtain⟨l,p,ws,us,rows,W,rfl,hl,hR,nm,hp,hW,rp,q⟩:=h;have hu:=hr.units;have cO:aV 1 _:=hr;refine⟨_,aC (dj (PW.pt (pw_or (fq (eG (a8 mj rfl B2.j8 jM (af (pv 1) (af (lh (v:= .ty "tuple") rfl B.tuple boot_tuple rfl) ai)))))
    (pw_or (d5 zV (a8 iE rfl B.len gq (af (pv 1) ai)) aN (cZ _))
    (pw_or1 (fq (eG (a8 (qF rfl) rfl B.all boot_all (af (dv rfl NA (jN (pv 1)) (fun s H fp=>⟨aU (i:=0) NA.nd rfl (Or.inl rfl),eF,bf GI cO rfl mI kI bI .nil bh (af (pv 1) (af (pv 0) ai))⟩)) ai)))))))) (aM (bg gE)) dh)
   (aC (qA rfl NB Nz.nd (i:=2) rfl rfl (jN (pv 1)) (fun s H fp=>⟨aU (i:=0) NB.nd rfl (Or.inl rfl),eF,cz (sQ K rfl) (pv 0) aN (fun _ _=>rfl)⟩))
   (aM (bg (o6 (jo (tx hu) (dv rfl NC (jN (pv 1)) (fun s H fp=>⟨aU (i:=0) NC.nd rfl (Or.inl rfl),eF,cz (sQ K rfl) (pv 0) aN (fun _ _=>rfl)⟩)) (cG mE (mi nP (pv 2) (ll aN) mx) (mi nP (pv 2) mx (ll aN))) (cZ _))
    (tm (jo zU (a8 Jd rfl B.len gq (af (cY (CO rfl) rfl bs boot_set (af (pv 2) ai)) ai)) (a8 iE rfl B.len gq (af (pv 2) ai)) (cZ _))))))),?_⟩
  have Pq:=hW.length;have hlen:=rp.len;have D0:=rp.bw;refine⟨_,rfl,⟨_,.inr ⟨"tuple",rfl⟩⟩,.ref p,.ty "tuple",.type "tuple",.type "tuple",true,rfl,rfl,.inl (.tup hp),rfl,true,rfl,?_⟩;refine⟨_,rfl,p,_,rfl,.inr (aG.of hp),us.length,2,rfl,rfl,_,rfl,?_⟩;have e2:decide ((us.length:Int) < 2)=false:=jd (by omega)
  rw[e2];refine⟨_,rfl,p,rfl,⟨_,aG.of hp⟩,fun c hc=>?_⟩;refine jK (xs:=us) (fun i ys τ H1=>∃t0:Option V,τ = [t0,some (.ref l)]/\ys=(List.replicate i true).map V.bl/\H1=upd H c (.lst ys)) ⟨none,rfl,rfl,rfl⟩ (fun i ys τ H1 ⟨_,_,_,z⟩=>by rw[z];exact⟨ag,aG.of (by rw[ah (aq hp hc)];exact hp)⟩) ?_ ?_
  ·rintro i x ys τ H1 hx ⟨t0,rfl,rfl,rfl⟩
   have aP:i < us.length:=(bU.mp hx).1;obtain⟨a,w,rfl,yE,ha⟩:=hW.get hx;have Sc:=ay (o:= .lst ((List.replicate i true).map V.bl)) hc;refine⟨_,rfl,_,rfl,Zk (Sc _ _ hl) (iP hR fun b xs h e=>⟨h,Sc _ _ e⟩) (Sc _ _ ha) (rp.at_ w (gB yE)) ⟨ag,by rw[ax,vv,aE];omega,cw_next aP ⟨_,rfl,?_,by rw[iQ]⟩⟩⟩
   rw[y6,bc];rfl
  rintro ys τ H1 ⟨t0,rfl,rfl,rfl⟩;have Bi:(List.replicate us.length true).all id=true:=by simp
  have S1:=ay (o:= .lst ((List.replicate us.length true).map V.bl)) hc;refine⟨c,_,rfl,ak.of ag,_,rfl,?_⟩;rw[Bi];have pV:=S1 _ _ hp;have Pr:=hW.same S1;generalize upd H c (.lst ((List.replicate us.length true).map V.bl))=H1 at S1 pV Pr ⊢;have fj:∀w:Wi,cI [V.int w.1,.str w.2.1,.str w.2.2] 1=some (V.str w.2.1):=fun w=>(show cI [V.int w.1,.str w.2.1,.str w.2.2] ((1:Nat):Int)=some (V.str w.2.1) from eT rfl);have at2:∀w:Wi,cI [V.int w.1,.str w.2.1,.str w.2.2] 2=some (V.str w.2.2):=fun w=>(show cI [V.int w.1,.str w.2.1,.str w.2.2] ((2:Nat):Int)=some (V.str w.2.2) from eT rfl);refine⟨_,rfl,p,rfl,⟨_,aG.of pV⟩,fun ba GB=>?_⟩;refine jK (xs:=us) (fun i ys τ H2=>∃t0:Option V,τ = [t0]/\ys=((W.take i).map (·.2.1)).map V.str/\H2=upd H1 ba (.lst ys)) ⟨none,rfl,rfl,rfl⟩ (fun i ys τ H2 ⟨_,_,_,z⟩=>by rw[z];exact⟨ag,aG.of (by rw[ah (aq pV GB)];exact pV)⟩) ?_ ?_
  ·rintro i x ys τ H2 hx ⟨t0,rfl,rfl,rfl⟩
   have aP:i < us.length:=(bU.mp hx).1;obtain⟨a,w,rfl,yE,ha⟩:=Pr.get hx;have tk:W.take (i+1)=W.take i ++ [w]:=by rw[df,yE];rfl
   refine⟨_,rfl,a,_,1,.str w.2.1,rfl,rfl,aG.of (by rw[ah (aq ha GB)];exact ha),fj w,ag,by rw[ax,ax,cK,aE];omega,cw_next aP ⟨_,rfl,?_,by rw[iQ]⟩⟩
   rw[tk,bc,bc];rfl
  rintro ys τ H2 ⟨t0,rfl,rfl,rfl⟩;rw[Pq,du];obtain⟨fr,m9⟩:∃fr,(W.map (·.2.1))=fr:=⟨_,rfl⟩;obtain⟨bk,Pt⟩:∃bk,(W.map (·.2.2))=bk:=⟨_,rfl⟩;rw[m9];have S2:=S1.trans (ay (o:= .lst (fr.map V.str)) GB);have hb:upd H1 ba (.lst (fr.map V.str)) ba=some (.lst (fr.map V.str)):=ag;have ix:=S2 _ _ hp;have Pu:=hW.same S2;generalize upd H1 ba (.lst (fr.map V.str))=H2 at S2 hb ix Pu ⊢;refine⟨_,rfl,p,rfl,⟨_,aG.of ix⟩,fun ea GG=>?_⟩;refine jK (xs:=us) (fun i ys τ H3=>∃t0:Option V,τ = [t0]/\ys=((W.take i).map (·.2.2)).map V.str/\H3=upd H2 ea (.lst ys)) ⟨none,rfl,rfl,rfl⟩ (fun i ys τ H3 ⟨_,_,_,z⟩=>by rw[z];exact⟨ag,aG.of (by rw[ah (aq ix GG)];exact ix)⟩) ?_ ?_
  ·rintro i x ys τ H3 hx ⟨t0,rfl,rfl,rfl⟩
   have aP:i < us.length:=(bU.mp hx).1;obtain⟨a,w,rfl,yE,ha⟩:=Pu.get hx;have tk:W.take (i+1)=W.take i ++ [w]:=by rw[df,yE];rfl
   refine⟨_,rfl,a,_,2,.str w.2.2,rfl,rfl,aG.of (by rw[ah (aq ha GG)];exact ha),at2 w,ag,by rw[ax,ax,cK,aE];omega,cw_next aP ⟨_,rfl,?_,by rw[iQ]⟩⟩
   rw[tk,bc,bc];rfl
  rintro ys τ H3 ⟨t0,rfl,rfl,rfl⟩;rw[Pq,du,Pt];have S3:=ay (o:= .lst (bk.map V.str)) GG;have he:upd H2 ea (.lst (bk.map V.str)) ea=some (.lst (bk.map V.str)):=ag;have oB:=S3 _ _ hb;have Bh:=S2.trans S3;generalize upd H2 ea (.lst (bk.map V.str))=H3 at S3 he oB Bh ⊢;have turn:fr.drop 1++fr.take 1=bk:=by rw[<-m9,<-Pt];exact rp.turn
  have ndf:fr.Nodup:=by rw[<-m9];exact rp.nd
  have Pw:∀y∈fr,Nm y:=fun y hy=>by
   rw[<-m9]at hy;obtain⟨w,hw,rfl⟩:=aS.mp hy;obtain⟨r,hr,hx,_⟩:=JA (rp.at_ w hw);exact nm r (gB hr) _ hx
  have nmb:∀y∈bk,Nm y:=fun y hy=>by
   rw[<-turn]at hy;rcases fb.mp hy with z|z
   ·exact Pw y (BU z)
   ·exact Pw y (vE z)
  have lfr:fr.length<=10:=by rw[<-m9,ax];exact rp.bw
  have ec1:d6 (fr.map V.str) (some (1:Int)) none=(fr.drop 1).map V.str:=by rw[show(1:Int)=((1:Nat):Int) from rfl,KP,IC]
  have GH:d6 (fr.map V.str) none (some (1:Int))=(fr.take 1).map V.str:=by rw[show(1:Int)=((1:Nat):Int) from rfl,zQ,II]
  refine⟨_,rfl,_,rfl,ba,_,rfl,ak.of oB,fun s1 GJ=>?_⟩;rw[ec1];have S4:=ay (o:= .lst ((fr.drop 1).map V.str)) GJ;refine⟨_,rfl,_,rfl,ba,_,rfl,ak.of (S4 _ _ oB),fun s2 AQ=>?_⟩;rw[GH];have S5:=ay (o:= .lst ((fr.take 1).map V.str)) AQ;refine⟨s1,s2,_,_,rfl,rfl,S5 _ _ ag,ag,?_,fun s3 GU=>?_⟩
  ·rw[ax,ax,HK,cK,aE];omega
  rw[<-bc,turn];have S6:=ay (o:= .lst (bk.map V.str)) GU;have lN:=S4.trans (S5.trans S6);refine Xa (lN _ _ he) ag nmb ?_;have Px:=lN _ _ oB;refine⟨true,rfl,?_⟩;refine⟨_,rfl,ba,fr,rfl,.inl (ak.of Px),by omega,fun a ds ha Gs mem=>?_⟩
  have S7:=ay (o:=n9 P w a ds) ha;refine⟨a,ds,rfl,ag,_,rfl,ba,_,rfl,.inl (ak.of (S7 _ _ Px)),rfl,?_⟩;rw[ax,((R7 Gs ndf).mpr mem).length_eq];have:decide (V.int (fr.length:Int)=V.int (fr.length:Int))=true:=gm rfl;rw[this];exact q _ (Bh.trans (lN.trans S7))
end
theorem bV.nodup {aa:aI} (s:ck aa) {k:Str}{l:List Str} (h:bV aa k l):l.Nodup /\ ∀y∈l,∃m,bV aa y m/\(y≠k->m.length < l.length):=by
 induction h with
 |mk hm hx hg ih =>
  rename_i k ps L o
  have Bk:∀r∈rowsOf L ps,r.Nodup:=fun r hr=>by
   rcases nJ.mp hr with⟨y,hy,rfl⟩|rfl
   ·exact(ih y hy).1
   ·exact s.kY _ hm
  obtain⟨⟨jE,ND⟩,_⟩:=sound _ _ rfl Bk o hg;have sub:∀x∈ps,∀y∈L x,y∈o:=fun x ez y hy=>(ND y).mpr ⟨L x,nJ.mpr (.inl ⟨x,ez,rfl⟩),hy⟩;have le:∀x∈ps,(L x).length<=o.length:=fun x ez=>tV (ih x ez).1 (sub x ez);have self:bV aa k (k::o):= .mk hm hx hg;have Py:∀y∈o,∃x∈ps,y∈L x:=fun y hy=>by
   obtain⟨r,hr,GV⟩:=(ND y).mp hy;rcases nJ.mp hr with⟨x,ez,rfl⟩|rfl
   ·exact⟨x,ez,GV⟩
   ·refine⟨y,GV,?_⟩
    have:=hx y GV;cases e:L y with
    |nil=>rw[e]at this;cases this
    |cons a b=>rw[e]at this;cases this;exact aZ
  have line:∀x∈ps,∀y∈L x,∃m,bV aa y m/\m.length<=(L x).length:=fun x ez y hy=>by
   obtain⟨m,h1,h2⟩:=(ih x ez).2 y hy
   by_cases e:y=x
   ·subst e;exact⟨L y,hx y ez,aO _⟩
   ·exact⟨m,h1,vo (h2 e)⟩
  have kno:k ∉ o:=fun hk=>by
   obtain⟨x,ez,hkx⟩:=Py k hk;obtain⟨m,h1,h2⟩:=line x ez k hkx;have e:=h1.uniq s self;subst e;have:=le x ez;rw[d4]at h2;omega
  refine⟨eP.mpr ⟨kno,jE⟩,fun y hy=>?_⟩;rcases a9.mp hy with rfl|z
  ·exact⟨_,self,fun h=>absurd rfl h⟩
  ·obtain⟨x,ez,GX⟩:=Py y z
   obtain⟨m,h1,h2⟩:=line x ez y GX;have:=le x ez;exact⟨m,h1,fun _=>by rw[d4];omega⟩
theorem Xb:Nm "ring" :=⟨by decide +kernel,by decide +kernel,by decide +kernel⟩
theorem Tt {aa:aI}{k:Str} (h:k ∉ keysOf aa):hZ aa k=aa:=by
 unfold hZ;refine ID.mpr fun p hp=>?_;have:p.1≠k:=fun e=>h (aS.mpr ⟨p,hp,e⟩)
 simpa using this
theorem Ki {aa:aI}{k:Str}{ps:List Str} (h:k ∉ keysOf aa):cN aa k ps=aa ++ [(k,ps)]:=by unfold cN;rw[Tt h]
section
variable{H:Hp}{t pa:Addr}{aa:aI}{k:Str}{ps:List Str}
theorem jq.st (m:jq H t pa aa k ps):ck (cN aa k ps):=K1 m.fa.1 m.le m.nm m.nd m.p4 m.kZ
theorem jq.rows (m:jq H t pa aa k ps):rowsOf (bo (cN aa k ps)) ps=rws aa ps:=sH fun x h=>Kf m.st m.nk (sZ m.al (m.kZ x h))
theorem jq.small (m:jq H t pa aa k ps):Small (rws aa ps):=by
 rw[<-m.rows];exact Jy m.st (k:=k) (ki.mpr (.inr rfl)) fun x hx=>(sT m.nk (sZ m.al (m.kZ x hx))).ln m.st
theorem jq.Bk (m:jq H t pa aa k ps):∀r∈rws aa ps,r.Nodup:=fun r hr=>by
 rcases nJ.mp hr with⟨y,hy,rfl⟩|rfl
 ·exact(bV.nodup m.fa.1 (sZ m.al (m.kZ y hy))).1
 ·exact m.nd
end
section
variable{P:Program}{w:World}{K:Frag}{mg:Str->Option Value}{base:Heap}{f:Addr}{fd:FuncData}
@[irreducible] def uy:Sp:=fun vs H Q _=>∃ (t oa:Addr) (aa:aI) (k:Str) (own:List Str),vs = [.ref t,.str k,.ref oa]/\FA H t aa/\fg aa/\aa.length<=14/\Nm k/\k ∉ keysOf aa/\H oa=some (.lst (own.map V.str))/\own.Nodup/\own.length<=4/\(∀x∈own,x∈keysOf aa) /\ ∀H',ao H H'->Q (.bl true) H'
theorem Zm {t oa:Addr}{aa:aI}{k:Str}{own:List Str}{H:Hp}{Q:VK}{E:XK} (fa:FA H t aa) (al:fg aa) (le:aa.length<=14) (nm:Nm k) (nk:k ∉ keysOf aa) (ho:H oa=some (.lst (own.map V.str))) (nd:own.Nodup) (p4:own.length<=4) (kZ:∀x∈own,x∈keysOf aa) (q:∀H',ao H H'->Q (.bl true) H'):uy [.ref t,.str k,.ref oa] H Q E:=by
 unfold uy;exact⟨t,oa,aa,k,own,rfl,fa,al,le,nm,nk,ho,nd,p4,kZ,q⟩
abbrev Pz:List Str:= ["_law_family_here","_law_kind","_law_own","_law_rows","_law_told","_law_refusal"]
theorem Aj:b8 Pz ["_law_family_here","_law_kind","_law_own"] (aJ wY):=⟨rfl,rfl,rfl,by decide +kernel,rfl,by decide +kernel,by decide +kernel⟩
abbrev eTy:Expr:=Ep (eK (cb (cu wY) 0))
theorem NF:bX Pz (aJ wY) ["_law_one","_law_family_here"] [none,some 0] (cj eTy):=⟨rfl,by decide +kernel,by decide +kernel,rfl,cU (by decide +kernel),by decide +kernel⟩
theorem Zn {fO fT fM fR:Addr}{dO dT dM dR:FuncData} (F:aX K "_law_try_right" "_law_try_right" wY f fd) (B:dJ mg) (B2:gr mg)
  (GO:aH P w K mg base aK 6 fO dO ["family","kind"] qH) (kO:keepIn K (.ref fO)=true) (bO:Binds K dO ["family","kind"] []) (mO:mg "line_of" = some (.ref fO))
  (GT:aH P w K mg base aK 8 fT dT ["_law_family_here","_law_kind","_law_own"] uv) (kT:keepIn K (.ref fT)=true) (bT:Binds K dT ["_law_family_here","_law_kind","_law_own"] []) (mT:mg "_law_tried" = some (.ref fT))
  (GM:aH P w K mg base aK 1 fM dM ["_law_rows"] rh) (kM:keepIn K (.ref fM)=true) (bM:Binds K dM ["_law_rows"] []) (mM:mg "_law_merged" = some (.ref fM))
  (GR:aH P w K mg base aK 2 fR dR ["_law_rows","_law_ring"] t4) (kR:keepIn K (.ref fR)=true) (bR:Binds K dR ["_law_rows","_law_ring"] []) (mR:mg "_law_is_ring" = some (.ref fR)) :
  aH P w K mg base aK 9 f fd ["_law_family_here","_law_kind","_law_own"] uy:=by
 refine F.ok Aj (fun vs H Q E h=>?_) (fun cdv A outer s H vs Q E hr h=>?_)
 ·unfold uy at h;obtain⟨t,oa,aa,k,own,rfl,_⟩:=h;rfl
 ·unfold uy at h
  obtain⟨t,oa,aa,k,own,rfl,fa,al,le,nm,nk,ho,nd,p4,kZ,q⟩:=h;have hu:=hr.units;have Bm:aV 8 _:=hr;have nu:aV 6 _:=Bm.mono (by decide)
  have iA:aV 2 _:=Bm.mono (by decide)
  have cO:aV 1 _:=Bm.mono (by decide)
  refine⟨_,aC (br (i:=3) Aj.nd rfl (Or.inl rfl) (cG mE (dv rfl NF (gC (pv 2)) (fun s H fp=>⟨aU (i:=0) NF.nd rfl (Or.inl rfl),eF,cY (Jf K rfl) rfl B.list boot_list (af (bf GO nu rfl mO kO bO .nil bh (af (pv 1) (af (pv 0) ai))) ai)⟩)) (c8 (af (cY oU rfl B.list boot_list (af (pv 2) ai)) ai))))
   (aC (tq (bf GT Bm rfl mT kT bT .nil bh (af (pv 0) (af (pv 1) (af (cY jl rfl B.tuple boot_tuple (af (pv 2) ai)) ai)))) (pj rfl (eW (aU (i:=4) Aj.nd rfl (Or.inl rfl)) (eW (aU (i:=5) Aj.nd rfl (Or.inl rfl)) lj))))
   (aC (dj (d5 Wd (bf GM cO rfl mM kM bM .nil bh (af (pv 3) ai)) jr (cZ _))
    (aM (bg (o6 (a8 mj rfl B2.j8 jM (af (pv 4) (af (lh (v:= .ty "tuple") rfl B.tuple boot_tuple rfl) ai)))
     (tm (jo (tx hu) (pv 4) (cY jl rfl B.tuple boot_tuple (af (a8 vG rfl B2.sorted boot_sorted (af (cG mE (cY oU rfl B.list boot_list (af (pv 0) ai)) (c8 (af (kj (af (pv 1) (af (cY jl rfl B.tuple boot_tuple (af (pv 2) ai)) ai))) ai))) ai)) ai)) (cZ _)))))) dh)
   (aM (bg (o6 (jo (tx hu) (mi nP (pv 5) mx (ll aN)) (c8 (af (c8 (af lu ai)) (af (pv 1) ai))) (cZ _))
    (tm (bf GR iA rfl mR kR bR .nil bh (af (pv 3) (af (cz fX (pv 5) aN (fun _ _=>rfl)) ai))))))))),?_⟩
  have sz:∀n:Nat,n<=100->n<=sizeLine:=fun n h=>by rw[aE];omega
  refine⟨_,rfl,oa,rfl,⟨_,ak.of ho⟩,fun c hc=>?_⟩;refine gR (xs:=own.map V.str) (fun i ys τ H1=>∃t0:Option V,τ = [t0,some (.ref t)]/\eX (fun a=>a≠c) H1 ys ((own.take i).map (bo aa))/\ao H H1/\H1 c=some (.lst ys)) ⟨none,rfl,.nil,ay hc,ag⟩ (fun i ys τ H1 ⟨_,_,_,S,z⟩=>⟨z,ak.of (S _ _ ho)⟩) ?_ ?_
  ·rintro i x ys τ H1 hx ⟨t0,rfl,hR,S1,h1⟩
   have aP:i < (own.map V.str).length:=(bU.mp hx).1;have EC:i < own.length:=by simpa using aP
   obtain rfl:V.str own[i]=x:=by simpa [EC] using hx
   have tk:own.take (i+1)=own.take i ++ [own[i]]:=by rw[df,bH EC];rfl
   refine⟨_,rfl,_,rfl,CA (fa.same S1) al (kZ _ (jf EC)) fun p H2 S2 h2=>⟨p,_,rfl,.inr (aG.of h2),fun l hl=>?_⟩⟩;have S3:=S2.trans (ay (o:= .lst ((bo aa own[i]).map V.str)) hl);have Fu:ys.length=i:=by rw[jF hR,ax,cK];omega
   refine⟨S3 _ _ h1,by rw[aE];omega,cw_next aP ⟨_,rfl,?_,fun b u e=>?_,ag⟩⟩
   ·rw[tk,bc]
    have PB:l≠c:=fun e=>by rw[e]at hl;rw[S2 _ _ h1]at hl;cases hl
    refine sE (iP hR fun b xs n e=>⟨n,by rw[ah n];exact S3 _ _ e⟩) PB ?_
    rw[ah PB];exact ag
   ·rw[ah (aq e hc)];exact S3 _ _ (S1 _ _ e)
  rintro ys τ H1 ⟨t0,rfl,hR,S1,h1⟩;rw[ax,du]at hR;have Fu:ys.length=own.length:=by rw[jF hR,ax]
  refine⟨_,rfl,oa,_,rfl,.inl (ak.of (S1 _ _ ho)),fun c1 vd=>?_⟩;have S2:=ay (o:= .lst (own.map V.str)) vd;refine⟨sz 1 (by decide),fun c2 fG=>?_⟩
  have S3:=S2.trans (ay (o:= .lst [V.ref c1]) fG);have k1:upd (upd H1 c1 (.lst (own.map V.str))) c2 (.lst [V.ref c1]) c1=some (.lst (own.map V.str)):=by rw[ah (aq ag fG)];exact ag
  refine⟨c,c2,_,_,rfl,rfl,S3 _ _ h1,ag,by rw[aE];show _+1<=_;omega,fun c3 rX=>?_⟩
  have S4:=S3.trans (ay (o:= .lst (ys ++ [V.ref c1])) rX);have h4:upd (upd (upd H1 c1 (.lst (own.map V.str))) c2 (.lst [V.ref c1])) c3 (.lst (ys ++ [V.ref c1])) c3=some (.lst (ys ++ [V.ref c1])):=ag;have k4:upd (upd (upd H1 c1 (.lst (own.map V.str))) c2 (.lst [V.ref c1])) c3 (.lst (ys ++ [V.ref c1])) c1=some (.lst (own.map V.str)):=by rw[ah (aq k1 rX)];exact k1
  generalize upd (upd (upd H1 c1 (.lst (own.map V.str))) c2 (.lst [V.ref c1])) c3 (.lst (ys ++ [V.ref c1]))=H4 at S4 h4 k4 ⊢;have R4:eX (fun _=>True) H4 (ys ++ [V.ref c1]) (rws aa own):=sE (iP hR fun a xs _ e=>⟨trivial,S4 _ _ e⟩) trivial k4;have yC:=S1.trans S4;refine⟨_,rfl,_,rfl,_,rfl,oa,_,rfl,.inl ⟨ak.of (yC _ _ ho),fun pa kU=>?_⟩⟩;have S5:=ay (o:= .tup (own.map V.str)) kU;have pQ:upd H4 pa (.tup (own.map V.str)) pa=some (.tup (own.map V.str)):=ag;generalize upd H4 pa (.tup (own.map V.str))=H5 at S5 pQ ⊢;have GY:=yC.trans S5;have mm:jq H5 t pa aa k own:=⟨fa.same GY,al,le,nm,nk,pQ,nd,p4,kZ⟩;have R5:eX (fun _=>True) H5 (ys ++ [V.ref c1]) (rws aa own):=iP R4 fun a xs z e=>⟨z,S5 _ _ e⟩;have h5:=S5 _ _ h4;refine Zi mm (fun hn r l H6 S6 h6 rf=>?_) fun r t' l told H6 S6 h6 ft pm so Pg ne=>?_
  ·refine⟨r,_,rfl,aG.of h6,rfl,_,_,rfl,_,_,rfl,rfl,?_⟩
   have R6:eX (fun _=>True) H6 (ys ++ [V.ref c1]) (rws aa own):=iP R5 fun a xs z e=>⟨z,S6 _ _ e⟩;refine⟨_,rfl,DR (S6 _ _ h5) R6 mm.small mm.Bk (fun _ H7 S7=>?_) fun o e=>absurd (hn.symm.trans e) (by intro z;cases z)⟩
   refine⟨rfl,_,rfl,?_⟩;have S06:=GY.trans S6;obtain⟨l2,p,us,W,e1,e2,e3,hW,rp⟩:=rf;have e1:=S7 _ _ e1;have e2:=S7 _ _ e2;have ec:d6 [V.ref l2,.str k,.ref p] none (some (2:Int)) = [V.ref l2,.str k]:=by rw[show(2:Int)=((2:Nat):Int) from rfl,zQ];rfl
   refine⟨_,rfl,_,rfl,l,_,rfl,ak.of e1,fun s1 GJ=>?_⟩;rw[ec];have T1:=ay (o:= .lst [V.ref l2,.str k]) GJ;refine⟨sz 1 (by decide),fun s2 AQ=>⟨_,rfl,sz 2 (by decide),fun s3 GU=>?_⟩⟩
   have T2:=ay (o:= .lst [V.str "ring"]) AQ;have T3:=ay (o:= .lst [V.ref s2,.str k]) GU;have PD:=T2.trans T3;have GZ:=T1.trans PD;have x1:=PD _ _ (ag (H:=H7) (a:=s1) (o:=HO.lst [V.ref l2,.str k]));have x2:=T3 _ _ (ag (H:=upd H7 s1 (.lst [V.ref l2,.str k])) (a:=s2) (o:=HO.lst [V.str "ring"]));have lay:(PyData.list [.list [.str "ring"],.str k]).canLay0=true:=by
    have h1:(PyData.list ([k].map PyData.str)).canLay0=true:=jn (xs:= [k]) fun x hx=>by rw[gn.mp hx];exact nm
    have h2:(PyData.list ([("ring" : Str)].map PyData.str)).canLay0=true:=jn (xs:= ["ring"]) fun x hx=>by rw[gn.mp hx];exact Xb
    simp only[PyData.canLay0,PyData.canLayAll0,cA,HM,IB]at h1 h2 ⊢;rw[h1,h2];rfl
   refine⟨_,_,.lst x1 (.cons (.lst (GZ _ _ e2) (.cons (.str _) .nil)) (.cons (.str _) .nil)),.lst ag (.cons (.lst x2 (.cons (.str _) .nil)) (.cons (.str _) .nil)),lay,lay,by simp only[PyData.depth,PyData.depthAll];decide,?_⟩
   rw[BW _ lay];refine⟨true,rfl,?_⟩;have yF:=S7.trans GZ;refine⟨_,rfl,_,rfl,l,_,2,.ref p,rfl,rfl,ak.of (GZ _ _ e1),(show cI [V.ref l2,.str k,.ref p] ((2:Nat):Int)=some (.ref p) from eT rfl),?_⟩;exact Ye (yF _ _ (S6 _ _ h5)) (iP R6 fun a xs z e=>⟨z,yF _ _ e⟩) mm.small.nm (yF _ _ e3) (hW.same yF) rp fun H8 S8=>q _ (S06.trans (yF.trans S8))
  ·refine⟨r,_,rfl,aG.of h6,rfl,_,_,rfl,_,_,rfl,rfl,?_⟩
   have R6:eX (fun _=>True) H6 (ys ++ [V.ref c1]) (rws aa own):=iP R5 fun a xs z e=>⟨z,S6 _ _ e⟩;refine⟨_,rfl,DR (S6 _ _ h5) R6 mm.small mm.Bk (fun e=>absurd e ne) fun o e p H7 hp S7 h7=>?_⟩;refine⟨rfl,_,rfl,?_⟩;have G0:=GY.trans (S6.trans S7);have G1:=ft.same S7;obtain⟨_,ws7,ht7,hf7⟩:=id G1;obtain⟨st0,ws,ht,hf⟩:=fa.same G0;refine⟨_,rfl,⟨_,.inr ⟨"tuple",rfl⟩⟩,.ref t',.ty "tuple",.type "tuple",.type "tuple",true,rfl,rfl,.inl (.tup ht7),rfl,true,rfl,?_⟩;refine⟨_,rfl,_,rfl,t,_,rfl,.inr (aG.of ht),fun l1 cy=>?_⟩;have T1:=ay (o:= .lst ws) cy;refine⟨_,rfl,_,rfl,oa,_,rfl,.inl ⟨ak.of (T1 _ _ (G0 _ _ ho)),fun pb A6=>⟨sz 2 (by decide),fun c5 Bd=>⟨sz 1 (by decide),fun c6 Be=>?_⟩⟩⟩⟩
   have T2:=ay (o:= .tup (own.map V.str)) A6;have T3:=ay (o:= .tup [V.str k,.ref pb]) Bd;have T4:=ay (o:= .lst [V.ref c5]) Be;have PF:=T2.trans (T3.trans T4);have y1:=PF _ _ (ag (H:=H7) (a:=l1) (o:=HO.lst ws));have y2:=(T3.trans T4) _ _ (ag (H:=upd H7 l1 (.lst ws)) (a:=pb) (o:=HO.tup (own.map V.str)));have y3:=T4 _ _ (ag (H:=upd (upd H7 l1 (.lst ws)) pb (.tup (own.map V.str))) (a:=c5) (o:=HO.tup [V.str k,.ref pb]));have hlen:=hf.length;refine⟨l1,c6,_,_,rfl,rfl,y1,ag,by rw[aE];show _+1<=_;omega,fun c7 hc7=>?_⟩
   have PH:=T1.trans PF;have T5:=ay (o:= .lst (ws ++ [V.ref c5])) hc7;have F7:bE _ (ws ++ [.ref c5]) (aa ++ [(k,own)]):=bE.append (hf.same (PH.trans T5)) (T5 _ _ y3) (T5 _ _ y2);rw[<-Ki nk]at F7;obtain⟨kvs,K7,ek⟩:=F7.keyed;refine⟨c7,_,kvs,1,rfl,.inl (ak.of ag),K7,aO _,by rw[ek];exact vT mm.st.nd,by rw[de,iN];omega,fun D cq eJ hD ff hK pY gZ=>?_⟩
   obtain⟨w6,gg,F8⟩:=vI ff F7;rw[vO F8 hK]at gZ;have G2:gO w6:=by
    unfold gO;rw[sq]at gZ ⊢;exact gZ.imp fun {a b} z=>by rw[zG]at z;exact z
   obtain rfl:told=w6:=zT so G2 (pm.trans gg.symm);have T6:=ay (o:= .lst cq) hD;refine⟨D,cq,rfl,.inl ⟨ak.of ag,fun t2 G3=>?_⟩⟩;have T7:=T6.trans (ay (o:= .tup cq) G3);have T57:=T5.trans T7;have PK:=PH.trans T57;exact L8 (G1.same PK) ⟨G1.1,cq,ag,bE.same F8 T7⟩ (q _ (G0.trans PK))
end
theorem cF.keep {p:Addr}{H H':Hp}{ks:List Str}{t d:Addr}{kvs:List (Key×V)}{L Ps:Str->List Str}{aa:aI} (R:cF H ks t d kvs L Ps aa) (pk:dZ p H) (k:∀b o,H b=some o->b≠p->H' b=some o):cF H' ks t d kvs L Ps aa:=by
 have np:∀ {b:Addr}{o:HO},H b=some o->(∀xs,o ≠ .lst xs)->b≠p:=fun {b o} e h z=>by
  obtain⟨x,y,e2,_⟩:=pk;rw[z,e2]at e;cases e;exact h _ rfl
 refine⟨let ⟨ws,a,b⟩:=R.fv;⟨ws,k _ _ a (np a fun _ z=>by cases z),b.keep fun c xs e=>k _ _ e (np e fun _ z=>by cases z)⟩,R.pm,R.fm,R.nd,R.nm,R.k8,k _ _ R.hd (np R.hd fun _ z=>by cases z),R.hk,fun x hx=>?_,R.so⟩
 obtain⟨a,e,q⟩:=R.pl x hx;exact⟨a,e,k _ _ q (zB pk q)⟩
structure nZ (ks:List Str) (Ps:Str->List Str) (os:List Str):Prop where
 nd:os.Nodup
 sub:∀x∈os,x∈ks
 up:∀ (i:Nat) (x:Str),os[i]? = some x -> ∀y∈Ps x,y∈os.take i
theorem nZ.snoc {ks:List Str}{Ps:Str->List Str}{os:List Str} (g:nZ ks Ps os) {x:Str} (hx:x∈ks) (hn:x ∉ os) (hp:∀y∈Ps x,y∈os):nZ ks Ps (os ++ [x]):=by
 refine⟨?_,fun y hy=>?_,fun i y hy z hz=>?_⟩
 ·rw[jg]
  exact⟨g.nd,by simp,fun a ha b hb e=>hn (by rw[<-gn.mp hb,<-e];exact ha)⟩
 ·rcases fb.mp hy with h|h
  ·exact g.sub y h
  ·rw[gn.mp h];exact hx
 ·by_cases h:i < os.length
  ·rw[BA h]at hy
   rw[aiq (by omega)]
   exact g.up i y hy z hz
  ·have hi:i=os.length:=by
    have:=(bU.mp hy).1;rw[de,iN]at this;omega
   subst hi;have:y=x:=by simpa using hy.symm
   subst this;rw[List.take_left' rfl];exact hp z hz
def w8 (Ps:Str->List Str) (os ss:List Str):List Str:=(ss.filter fun x=>!decide (x∈os)).filter fun x=>(Ps x).all fun y=>decide (y∈os)
theorem Kj {Ps:Str->List Str}{os ss:List Str}{x:Str}:x∈w8 Ps os ss ↔ x∈ss/\x ∉ os /\ ∀y∈Ps x,y∈os:=by
 unfold w8;rw[iC,iC,oQ];simp[and_assoc]
theorem Vf {ks:List Str}{L Ps:Str->List Str} (F:Fm ks L Ps) (h8:ks.length<=8) {os ss:List Str} (g:nZ ks Ps os) (hs:ss.Perm ks) (hl:os.length < ks.length) (nd:ks.Nodup):0 < (w8 Ps os ss).length:=by
 have lp:=F.Po h8;have ex:∃x∈ks,x ∉ os:=by
  by_cases z:∃x∈ks,x ∉ os
  ·exact z
  ·have:∀x∈ks,x∈os:=fun x hx=>by
    by_cases h:x∈os
    ·exact h
    ·exact absurd ⟨x,hx,h⟩ z
   have:=len_sub nd this;omega
 have key:∀n,∀x∈ks,x ∉ os->(L x).length=n -> ∃x∈ks,x ∉ os /\ ∀y∈Ps x,y∈os:=by
  intro n
  induction n using Nat.strongRecOn with
  |_ n ih =>
   intro x hx hn e
   by_cases z:∃y∈Ps x,y ∉ os
   ·obtain⟨y,hy,FU⟩:=z
    exact ih _ (by rw[<-e];exact lp.len _ (CB hx) y hy) y ((F.ps x hx).2.2 y hy) FU rfl
   ·exact⟨x,hx,hn,fun y hy=>by
     by_cases h:y∈os
     ·exact h
     ·exact absurd ⟨y,hy,h⟩ z⟩
 obtain⟨x,hx,hn⟩:=ex;obtain⟨x,hx,hn,hp⟩:=key _ x hx hn rfl;exact Ib (Kj.mpr ⟨hs.mem_iff.mpr hx,hn,hp⟩)
section
variable{P:Program}{w:World}{K:Frag}{mg:Str->Option Value}{base:Heap}{f:Addr}{fd:FuncData}
@[irreducible] def uz:Sp:=fun vs H Q _=>∃ (p:Addr) (ks:List Str) (t d:Addr) (kvs:List (Key×V)) (L Ps:Str->List Str) (aa:aI),vs = [.ref p,.ref d]/\dZ p H/\cF H ks t d kvs L Ps aa /\
 ∀ (o:Addr) (os:List Str) (H':Hp),bp p H H'->H' o=some (.lst (os.map V.str))->o≠p->nZ ks Ps os->os.length=ks.length->Q (.ref o) H'
theorem Zo {p:Addr}{ks:List Str}{t d:Addr}{kvs:List (Key×V)}{L Ps:Str->List Str}{aa:aI}{H:Hp}{Q:VK}{E:XK} (pk:dZ p H) (R:cF H ks t d kvs L Ps aa)
  (q:∀ (o:Addr) (os:List Str) (H':Hp),bp p H H'->H' o=some (.lst (os.map V.str))->o≠p->nZ ks Ps os->os.length=ks.length->Q (.ref o) H'):uz [.ref p,.ref d] H Q E:=by
 unfold uz;exact⟨p,ks,t,d,kvs,L,Ps,aa,rfl,pk,R,q⟩
abbrev G4:List Str:= ["_law_pot_here","_law_parents_here","_law_order_here","_law_turn","_law_free"]
theorem xt:b8 G4 ["_law_pot_here","_law_parents_here"] (aJ qO):=⟨rfl,rfl,rfl,by decide +kernel,rfl,by decide +kernel,by decide +kernel⟩
def z4 (s:Stmt):List Stmt:=match s with|.For _ _ b _ _=>b|_=>[]
abbrev eO1:Expr:=eK (cb (z4 (cb (cu qO) 1)) 0)
abbrev G5:Expr:=eK (cb (z4 (cb (cu qO) 1)) 1)
abbrev eO3:Expr:=eY (DD G5)
theorem NG:bX G4 (aJ qO) ["_law_kind","_law_order_here"] [none,some 2] (cj eO1):=⟨rfl,by decide +kernel,by decide +kernel,rfl,cU (by decide +kernel),by decide +kernel⟩
theorem NH:bX G4 (aJ qO) ["_law_kind","_law_order_here","_law_parents_here"] [none,some 2,some 1] (cj G5):=⟨rfl,by decide +kernel,by decide +kernel,rfl,cU (by decide +kernel),by decide +kernel⟩
theorem aaW {env:Env}:bX ["_law_kind","_law_order_here","_law_parents_here"] (relabel (cj G5) env) ["_law_one","_law_order_here"] [none,some 1] (cj eO3):=nest rfl (by decide +kernel) (by decide +kernel) rfl (by decide +kernel) (by decide +kernel)
theorem aaX:(["_law_one","_law_order_here"]:List Str).Nodup:=by decide +kernel
theorem Zp {fD:Addr}{dD:FuncData} (F:aX K "_law_order" "_law_order" qO f fd) (B:dJ mg) (B2:gr mg) (GD:aH P w K mg base aK 1 fD dD ["_law_pot_here","_law_many"] my) (kD:keepIn K (.ref fD)=true) (bD:Binds K dD ["_law_pot_here","_law_many"] []) (mD:mg "_law_digit" = some (.ref fD)) :
  aH P w K mg base aK 2 f fd ["_law_pot_here","_law_parents_here"] uz:=by
 refine F.ok xt (fun vs H Q E h=>?_) (fun cdv A outer s H vs Q E hr h=>?_)
 ·unfold uz at h;obtain⟨p,ks,t,d,kvs,L,Ps,aa,rfl,_⟩:=h;rfl
 ·unfold uz at h
  obtain⟨p,ks,t,d,kvs,L,Ps,aa,rfl,pk,R,q⟩:=h;have hu:=hr.units;have eu:=qw (qx (show 1<=64 by decide) _) hu
  have cO:aV 1 _:=hr;refine⟨_,aC (br (i:=2) xt.nd rfl (Or.inr rfl) (c8 ai))
   (aC (jO ke rfl (nK rfl B.range (af (a8 Cs rfl B.len gq (af (pv 1) ai)) ai)) (aU (i:=3) xt.nd rfl (Or.inl rfl))
    (aC (qA (i:=4) rfl NG xt.nd rfl rfl (gC (a8 (Sy rfl) rfl B2.sorted boot_sorted (af (pv 1) ai))) (fun s H fp=>⟨aU (i:=0) NG.nd rfl (Or.inl rfl),lb (d5 (Jn K rfl) (pv 0) (pv 1) rfl),pv 0⟩))
    (aC (qA (i:=4) rfl NH xt.nd rfl rfl (gC (pv 4)) (fun s H fp=>⟨aU (i:=0) NH.nd rfl (Or.inl rfl),lb (eG (a8 (Jg K rfl rfl) rfl B.all boot_all (af (dv rfl aaW (Cp K rfl (lq eu (pv 2) (pv 0) (fun _ _=>rfl))) (fun s H fp=>⟨aU (i:=0) aaX rfl (Or.inl rfl),eF,jo (Lg K rfl) (pv 0) (pv 1) rfl⟩)) ai))),pv 0⟩))
    (aM (iR (iU kf qu qv k9 (pv 2) (af (cz fX (pv 4) (bf GD cO rfl mD kD bD .nil bh (af (pv 0) (af (a8 iE rfl B.len gq (af (pv 4) ai)) ai))) (fun _ _=>rfl)) ai)))))))
   (aM (bg (pv 2)))),?_⟩
  have k8:=R.k8;have kl:kvs.length=ks.length:=by have:=eO List.length R.hk;simpa using this
  refine⟨bG _,fun oa i8=>?_⟩;have G7:p≠oa:=pk.ne i8;have P0:bp p H (upd H oa (.lst [])):=(bp.refl pk).new i8;have h0:upd H oa (.lst []) oa=some (.lst (([]:List Str).map V.str)):=ag;generalize upd H oa (.lst [])=H0 at P0 h0 ⊢;have R0:=R.keep pk P0.kp;refine⟨_,rfl,d,kvs,rfl,R0.hd,(kvs.length:Int),rfl,by omega,by omega,qE (fun i σ H1=>∃ (os:List Str) (v3 v4:Option V),σ = [some (.ref p),some (.ref d),some (.ref oa),v3,v4]/\os.length=i/\nZ ks Ps os/\bp p H H1/\H1 oa=some (.lst (os.map V.str)))
   ⟨[],none,none,rfl,rfl,⟨lY,fun x hx=>(by cases hx),fun i x hx=>(by simp at hx)⟩,P0,h0⟩ (fun i σ H1 hi hP=>?_) (fun σ H1 hP=>?_)⟩
  ·obtain⟨os,v3,v4,rfl,G8,go,P1,h1⟩:=hP
   have ye:i < ks.length:=by rw[<-kl];simpa using hi
   have R1:=R.keep pk P1.kp;refine⟨_,rfl,d,kvs,ks,rfl,R1.hd,R.hk,by omega,fun D ss hD hs _=>?_⟩
   have PL:ss.length<=8:=by rw[hs.length_eq];exact k8
   have SD:=ay (o:= .lst (ss.map V.str)) hD;have G9:upd H1 D (.lst (ss.map V.str)) D=some (.lst (ss.map V.str)):=ag;generalize upd H1 D (.lst (ss.map V.str))=HD at SD G9 ⊢;refine⟨D,rfl,⟨_,ak.of G9⟩,fun c hc=>?_⟩;have uJ:=SD _ _ h1;refine gR (xs:=ss.map V.str) (fun j ys τ H3=>∃t0:Option V,τ = [t0,some (.ref oa)]/\ys=((ss.take j).filter fun x=>!decide (x∈os)).map V.str/\ao HD H3/\H3 c=some (.lst ys)) ⟨none,rfl,rfl,ay hc,ag⟩ (fun j ys τ H3 ⟨_,_,_,z1,z2⟩=>⟨z2,ak.of (z1 _ _ G9)⟩) ?_ ?_
   ·rintro j x ys τ H3 hx ⟨t0,rfl,rfl,S3,h3⟩
    have cg:j < (ss.map V.str).length:=(bU.mp hx).1;have dH:j < ss.length:=by simpa using cg
    obtain rfl:V.str ss[j]=x:=by simpa [dH] using hx
    have tk:ss.take (j+1)=ss.take j ++ [ss[j]]:=by rw[df,bH dH];rfl
    refine⟨_,rfl,_,rfl,oa,_,rfl,.inl (ak.of (S3 _ _ uJ)),rfl,mf _,_,rfl,?_⟩;rw[nM];have l3:((ss.take j).filter fun x=>!decide (x∈os)).length<=8:=dU (jk _ _) (by rw[cK];omega)
    refine iH (fun j3=>?_) (fun j3=>?_)
    ·have ED:ss[j] ∉ os:=fun z=>by simp[z]at j3
     refine⟨_,rfl,h3,by rw[ax,aE];omega,cw_next cg ⟨_,rfl,?_,fun c u e=>?_,ag⟩⟩
     ·rw[tk,kh,su (by simpa using ED),bc];rfl
     ·rw[ah (aq e hc)];exact S3 _ _ e
    ·have ED:ss[j]∈os:=by
      refine aim fun z=>j3 ?_;simp[z]
     refine cw_next cg ⟨_,rfl,?_,S3,h3⟩;rw[tk,kh,vF (by simpa using ED)];simp
   rintro ys τ H3 ⟨t0,rfl,rfl,S3,h3⟩;rw[ax,du]at h3;obtain⟨fs,x5⟩:∃fs,(ss.filter fun x=>!decide (x∈os))=fs:=⟨_,rfl⟩;rw[x5]at h3;have fs8:fs.length<=8:=by rw[<-x5];exact dU (jk _ _) PL
   have fsk:∀x∈fs,x∈ks:=fun x hx=>by rw[<-x5]at hx;exact hs.mem_iff.mp (iC.mp hx).1
   have ql:=SD.trans S3;have R3:=R1.same ql;have xO:=ql _ _ h1;refine⟨_,rfl,c,rfl,⟨_,ak.of h3⟩,fun e he=>?_⟩;refine gR (xs:=fs.map V.str) (fun j ys τ H4=>∃t0:Option V,τ = [t0,some (.ref oa),some (.ref d)]/\ys=((fs.take j).filter fun x=>(Ps x).all fun y=>decide (y∈os)).map V.str/\ao H3 H4/\H4 e=some (.lst ys)) ⟨none,rfl,rfl,ay he,ag⟩ (fun j ys τ H4 ⟨_,_,_,z1,z2⟩=>⟨z2,ak.of (z1 _ _ h3)⟩) ?_ ?_
   ·rintro j x ys τ H4 hx ⟨t0,rfl,rfl,S4,h4⟩
    have cg:j < (fs.map V.str).length:=(bU.mp hx).1;have dH:j < fs.length:=by simpa using cg
    obtain rfl:V.str fs[j]=x:=by simpa [dH] using hx
    have tk:fs.take (j+1)=fs.take j ++ [fs[j]]:=by rw[df,bH dH];rfl
    have Bn:=fsk _ (jf dH);have R4:=R3.same S4;obtain⟨a,dg,ha⟩:=R4.get Bn;have p4:=(R.fm.ps _ Bn).2.1;refine⟨_,rfl,_,rfl,d,.ref a,rfl,dg,a,rfl,⟨_,ak.of ha⟩,fun g hg=>?_⟩;have fH:=S4 _ _ xO;refine gR (xs:=(Ps fs[j]).map V.str) (fun m zs τ H5=>∃t1:Option V,τ = [t1,some (.ref oa)]/\zs=(((Ps fs[j]).take m).map fun y=>decide (y∈os)).map V.bl/\H5=upd H4 g (.lst zs)) ⟨none,rfl,rfl,rfl⟩ (fun m zs τ H5 ⟨_,_,_,z⟩=>by rw[z];exact⟨ag,ak.of (by rw[ah (aq ha hg)];exact ha)⟩) ?_ ?_
    ·rintro m y zs τ H5 hy ⟨t1,rfl,rfl,rfl⟩
     have PM:m < ((Ps fs[j]).map V.str).length:=(bU.mp hy).1;have yw:m < (Ps fs[j]).length:=by simpa using PM
     obtain rfl:V.str (Ps fs[j])[m]=y:=by simpa [yw] using hy
     have tkm:(Ps fs[j]).take (m+1)=(Ps fs[j]).take m ++ [(Ps fs[j])[m]]:=by rw[df,bH yw];rfl
     refine⟨_,rfl,_,rfl,oa,_,rfl,.inl (ak.of (by rw[ah (aq fH hg)];exact fH)),rfl,mf _,?_⟩
     rw[au cP,nM];refine⟨ag,by rw[ax,ax,cK,aE];omega,cw_next PM ⟨_,rfl,?_,by rw[iQ]⟩⟩
     rw[tkm,bc,bc];rfl
    rintro zs τ H5 ⟨t1,rfl,rfl,rfl⟩;rw[ax,du];refine⟨g,_,rfl,ak.of ag,_,rfl,?_⟩;have eb:(((Ps fs[j]).map fun y=>decide (y∈os)).all id)=(Ps fs[j]).all fun y=>decide (y∈os):=by rw[List.all_map];rfl
    rw[eb];have Sg:=ay (o:= .lst (((Ps fs[j]).map fun y=>decide (y∈os)).map V.bl)) hg;have l4:((fs.take j).filter fun x=>(Ps x).all fun y=>decide (y∈os)).length<=8:=dU (jk _ _) (by rw[cK];omega)
    cases hb:(Ps fs[j]).all fun y=>decide (y∈os) with
    |true =>
     refine⟨_,rfl,Sg _ _ h4,by rw[ax,aE];omega,cw_next cg ⟨_,rfl,?_,fun c u z=>?_,ag⟩⟩
     ·rw[tk,kh,su (p:=fun x=>(Ps x).all fun y=>decide (y∈os)) hb,bc];rfl
     ·rw[ah (aq z he)];exact Sg _ _ (S4 _ _ z)
    |false =>
     refine cw_next cg ⟨_,rfl,?_,S4.trans Sg,Sg _ _ h4⟩;rw[tk,kh,vF (p:=fun x=>(Ps x).all fun y=>decide (y∈os)) (by rw[hb];exact cP)];simp
   rintro ys τ H4 ⟨t0,rfl,rfl,S4,h4⟩;rw[ax,du,<-x5]at h4;obtain⟨ns,jZ⟩:∃ns,w8 Ps os ss=ns:=⟨_,rfl⟩;have h4:H4 e=some (.lst (ns.map V.str)):=by rw[<-jZ];exact h4
   have pos:0 < ns.length:=by rw[<-jZ];exact Vf R.fm R.k8 go hs (by omega) R.nd
   have N7:ns.length<=8:=by
    rw[<-jZ];exact dU (jk _ _) (dU (jk _ _) PL)
   have PN:=ql.trans S4;have P4:=P1.trans (nO P1.ok PN);have fH:=PN _ _ h1;have npe:e≠p:=fun z=>by
    obtain⟨x,y,ex,_⟩:=(nO P1.ok ql).ok;rw[z,ex]at he;cases he
   refine⟨_,rfl,.inl ⟨rfl,_,ak.of fH⟩,_,rfl,_,rfl,_,rfl,e,_,rfl,.inl (ak.of h4),?_⟩;refine mq (p:=p) P4.ok (by rw[ax];omega) (by rw[ax];omega) fun dg H5 d0 d1 P5=>?_
   obtain⟨dn,rfl⟩:=IH d0;rw[ax]at d1;have PQ:dn < ns.length:=by omega
   have h5:=P5.kp _ _ h4 npe;have G':=P5.kp _ _ fH (aQ G7);refine⟨e,_,dn,.str ns[dn],rfl,rfl,ak.of h5,eT (by rw[gA,bH PQ];rfl),?_⟩
   refine⟨oa,_,_,rfl,rfl,G',by rw[ax,aE];omega,?_⟩
   have mm:=Kj.mp (by rw[jZ];exact jf PQ:ns[dn]∈w8 Ps os ss)
   refine⟨os ++ [ns[dn]],_,_,rfl,by rw[de,iN,G8],go.snoc (hs.mem_iff.mp mm.1) mm.2.1 mm.2.2,(P4.trans P5).write i8 G7,?_⟩
   rw[ag,bc];rfl
  ·obtain⟨os,v3,v4,rfl,G8,go,P1,h1⟩:=hP
   exact⟨_,rfl,q oa os H1 P1 h1 (aQ G7) go (by rw[G8,<-kl];simp)⟩
end
theorem FA.keep {p t:Addr}{H H':Hp}{aa:aI} (h:FA H t aa) (pk:dZ p H) (k:∀b o,H b=some o->b≠p->H' b=some o):FA H' t aa:=by
 have np:∀ {b:Addr}{xs:List V},H b=some (.tup xs)->b≠p:=fun {b xs} e z=>by
  obtain⟨x,y,e2,_⟩:=pk;rw[z,e2]at e;cases e
 obtain⟨st,ws,a,b⟩:=h;exact⟨st,ws,k _ _ a (np a),b.keep fun c xs e=>k _ _ e (np e)⟩
theorem Kk:ck []:=⟨lY,bG _,fun _ h=>(by cases h),fun _ h=>(by cases h),fun _ h=>(by cases h),fun _ h=>(by cases h)⟩
structure Made (ks:List Str) (L Ps:Str->List Str) (ds:List Str) (fi:aI):Prop where
 st:ck fi
 pm:fi.Perm (cM Ps ds)
 so:gO fi
 al:fg fi
theorem Made.mem {ks ds:List Str}{L Ps:Str->List Str}{fi:aI} (m:Made ks L Ps ds fi) {p:Str×List Str}:p∈fi ↔ p.1∈ds/\p.2=Ps p.1:=by
 rw[m.pm.mem_iff]
 constructor
 ·intro h
  obtain⟨x,hx,rfl⟩:=aS.mp h;exact⟨hx,rfl⟩
 ·rintro⟨h1,h2⟩
  exact aS.mpr ⟨p.1,h1,by rw[<-h2]⟩
theorem Made.key {ks ds:List Str}{L Ps:Str->List Str}{fi:aI} (m:Made ks L Ps ds fi) {x:Str}:x∈keysOf fi ↔ x∈ds:=
 ⟨fun h=>by obtain⟨p,hp,rfl⟩:=aS.mp h;exact(m.mem.mp hp).1,fun h=>aS.mpr ⟨(x,Ps x),m.mem.mpr ⟨h,rfl⟩,rfl⟩⟩
theorem Made.line {ks ds:List Str}{L Ps:Str->List Str}{fi:aI} (F:Fm ks L Ps) (h8:ks.length<=8) (m:Made ks L Ps ds fi) (sub:∀x∈ds,x∈ks) (up:∀x∈ds,∀y∈Ps x,y∈ds) {x:Str} (hx:x∈ds):bo fi x=L x:=
 (F.has h8 (S:=fun y=>y∈ds) (fun y _ hy=>⟨m.mem.mpr ⟨hy,rfl⟩,up y hy⟩) x (sub x hx) hx).line m.st
theorem nZ.perm {ks:List Str}{Ps:Str->List Str}{os:List Str} (g:nZ ks Ps os) (nd:ks.Nodup) (h:os.length=ks.length):os.Perm ks:=by
 refine Um g.nd nd fun x=>⟨g.sub x,fun hx=>?_⟩
 by_cases z:x∈os
 ·exact z
 ·have:=len_sub (b:=ks) (eP.mpr ⟨z,g.nd⟩) fun y hy=>by
   rcases a9.mp hy with rfl|h
   ·exact hx
   ·exact g.sub y h
  rw[d4]at this;omega
section
variable{P:Program}{w:World}{K:Frag}{mg:Str->Option Value}{base:Heap}{f:Addr}{fd:FuncData}
@[irreducible] def uA:Sp:=fun vs H Q _=>∃ (p:Addr) (ks:List Str) (t d:Addr) (kvs:List (Key×V)) (L Ps:Str->List Str) (aa:aI) (sp:Str),vs = [.ref p,.ref t,.ref d,.str sp]/\dZ p H/\cF H ks t d kvs L Ps aa/\Nm sp/\sp ∉ ks /\ ∀H',bp p H H'->Q (.bl true) H'
theorem Zq {p:Addr}{ks:List Str}{t d:Addr}{kvs:List (Key×V)}{L Ps:Str->List Str}{aa:aI}{sp:Str}{H:Hp}{Q:VK}{E:XK} (pk:dZ p H) (R:cF H ks t d kvs L Ps aa) (nm:Nm sp) (ns:sp ∉ ks) (q:∀H',bp p H H'->Q (.bl true) H'):uA [.ref p,.ref t,.ref d,.str sp] H Q E:=by
 unfold uA;exact⟨p,ks,t,d,kvs,L,Ps,aa,sp,rfl,pk,R,nm,ns,q⟩
abbrev PR:List Str:= ["_law_pot_here","_law_family_here","_law_parents_here","_law_spare","_law_found","_law_order_here","_law_k","_law_kind","_law_due"]
theorem rA:b8 PR ["_law_pot_here","_law_family_here","_law_parents_here","_law_spare"] (aJ wD):=⟨rfl,rfl,rfl,by decide +kernel,rfl,by decide +kernel,by decide +kernel⟩
abbrev eMr:Expr:=eY (eY (eK (cb (z4 (cb (cu wD) 2)) 2)))
theorem NI:bX PR (aJ wD) ["_law_one","_law_parents_here"] [none,some 2] (cj eMr):=⟨rfl,by decide +kernel,by decide +kernel,rfl,cU (by decide +kernel),by decide +kernel⟩
theorem Zr {C fO fT fS fM fF:Addr}{dO dT dS dM dF:FuncData} (F:aX K "_law_made_right" "_law_made_right" wD f fd) (B:dJ mg) (B2:gr mg)
  (GO:aH P w K mg base aK 2 fO dO ["_law_pot_here","_law_parents_here"] uz) (kO:keepIn K (.ref fO)=true) (bO:Binds K dO ["_law_pot_here","_law_parents_here"] []) (mO:mg "_law_order" = some (.ref fO))
  (GT:aH P w K mg base aK 9 fT dT ["_law_family_here","_law_kind","_law_own"] uy) (kT:keepIn K (.ref fT)=true) (bT:Binds K dT ["_law_family_here","_law_kind","_law_own"] []) (mT:mg "_law_try_right" = some (.ref fT))
  (GS:aH P w K mg base aK 2 fS dS ["_law_pot_here","_law_kinds"] uu) (kS:keepIn K (.ref fS)=true) (bS:Binds K dS ["_law_pot_here","_law_kinds"] []) (mS:mg "_law_some_of" = some (.ref fS))
  (GM:aH P w K mg base (eN P w) 7 fM dM ["family","kind","parents"] (rq C)) (kM:keepIn K (.ref fM)=true) (bM:Binds K dM ["family","kind","parents"] []) (mM:mg "kind_made" = some (.ref fM))
  (GF:aH P w K mg base aK 6 fF dF ["thing"] tZ) (kF:keepIn K (.ref fF)=true) (bF:Binds K dF ["thing"] []) (mF:mg "is_family" = some (.ref fF)) :
  aH P w K mg base aK 10 f fd ["_law_pot_here","_law_family_here","_law_parents_here","_law_spare"] uA:=by
 refine F.ok rA (fun vs H Q E h=>?_) (fun cdv A outer s H vs Q E hr h=>?_)
 ·unfold uA at h;obtain⟨p,ks,t,d,kvs,L,Ps,aa,sp,rfl,_⟩:=h;rfl
 ·unfold uA at h
  obtain⟨p,ks,t,d,kvs,L,Ps,aa,sp,rfl,pk,R,nm,ns,q⟩:=h;have hu:=hr.units;have eu:=qw (qx (show 1<=64 by decide) _) hu
  have Bo:aV 9 _:=hr;have vg:aV 7 _:=Bo.mono (by decide)
  have nu:aV 6 _:=Bo.mono (by decide)
  have iA:aV 2 _:=Bo.mono (by decide)
  refine⟨_,aC (br (i:=4) rA.nd rfl (Or.inl rfl) (kj ai))
   (aC (br (i:=5) rA.nd rfl (Or.inl rfl) (bf GO iA rfl mO kO bO .nil bh (af (pv 0) (af (pv 2) ai))))
   (aC (jO ke rfl (Lf rfl B.OB (af (pv 5) ai)) (pj rfl (eW (aU (i:=6) rA.nd rfl (Or.inl rfl)) (eW (aU (i:=7) rA.nd rfl (Or.inl rfl)) lj)))
    (aC (dj (fq (eG (bf GT Bo rfl mT kT bT .nil bh (af (pv 4) (af (pv 3) (af (bf GS iA rfl mS kS bS .nil bh (af (pv 0) (af (mi nP (pv 5) mx (ll (pv 6))) ai))) ai)))))) (aM (bg gE)) dh)
    (aC (br (i:=4) rA.nd rfl (Or.inl rfl) (bf GM vg rfl mM kM bM .nil LH (af (pv 4) (af (pv 7) (af (cY jl rfl B.tuple boot_tuple (af (lq eu (pv 2) (pv 7) (fun _ _=>rfl)) ai)) ai)))))
    (aC (br (i:=8) rA.nd rfl (Or.inl rfl) (cY jl rfl B.tuple boot_tuple (af (a8 vG rfl B2.sorted boot_sorted (af (dv rfl NI (gC (mi nP (pv 5) mx (ll (cG pq (pv 6) aN)))) (fun s H fp=>⟨aU (i:=0) NI.nd rfl (Or.inl rfl),eF,kj (af (pv 0) (af (cY (zf K rfl) rfl B.tuple boot_tuple (af (lq eu (pv 1) (pv 0) (fun _ _=>rfl)) ai)) ai))⟩)) ai)) ai)))
    (aM (dj (PW.pt (pw_or (fq (eG (a8 mj rfl B2.j8 jM (af (pv 4) (af (lh (v:= .ty "tuple") rfl B.tuple boot_tuple rfl) ai))))) (pw_or1 (d5 (zM hu) (pv 4) (pv 8) (cZ _))))) (aM (bg gE)) dh))))))
   (aM (bg (o6 (jo (tx hu) (pv 4) (pv 1) (cZ _)) (tm (jo XU (bf GF nu rfl mF kF bF .nil bh (af (pv 4) ai)) gE (cZ _)))))))),?_⟩
  have k8:=R.k8;have sz:∀n:Nat,n<=100->n<=sizeLine:=fun n h=>by rw[aE];omega
  refine⟨bG _,fun t0 ht0=>?_⟩;have P0:bp p H (upd H t0 (.tup [])):=(bp.refl pk).new ht0;have h0:upd H t0 (.tup []) t0=some (.tup []):=ag;generalize upd H t0 (.tup [])=H0 at P0 h0 ⊢;refine⟨_,rfl,_,rfl,Zo P0.ok (R.keep pk P0.kp) fun o os H1 P1 h1 nop go rN=>?_⟩;have f0:FA H0 t0 []:=⟨Kk,[],h0,.nil⟩;have P01:=P0.trans P1;refine⟨_,rfl,o,rfl,⟨_,ak.of h1⟩,KO (xs:=os.map V.str) (fun i σ H2=>∃ (ft:Addr) (fi:aI) (v6 v7 v8:Option V),σ = [some (.ref p),some (.ref t),some (.ref d),some (.str sp),some (.ref ft),some (.ref o),v6,v7,v8]/\bp p H H2/\H2 o=some (.lst (os.map V.str))/\FA H2 ft fi/\Made ks L Ps (os.take i) fi)
   ⟨t0,[],none,none,none,rfl,P01,h1,f0.keep P0.ok P1.kp,Kk,.nil,.nil,fun q h=>(by cases h)⟩ (fun i σ H2 _ ⟨_,_,_,_,_,_,_,z,_⟩=>ak.of z) ?_ ?_⟩
  ·rintro i x σ H2 tt hx ⟨ft,fi,v6,v7,v8,rfl,P2,h2,f2,m⟩ qm
   have cg:i < (os.map V.str).length:=(bU.mp hx).1;have dH:i < os.length:=by simpa using cg
   obtain rfl:V.str os[i]=x:=by simpa [dH] using hx
   have lP:os.take (i+1)=os.take i ++ [os[i]]:=by rw[df,bH dH];rfl
   have sub:∀x∈os.take i,x∈ks:=fun x hx=>go.sub x (vE hx);have Gj:(os.take i).Nodup:=go.nd.sublist (yN _ _);have up:∀x∈os.take i,∀y∈Ps x,y∈os.take i:=fun x hx y hy=>by
    obtain⟨j,hj⟩:=List.mem_iff_getElem?.mp hx;rw[List.getElem?_take]at hj
    by_cases PU:j < i
    ·rw[aB PU]at hj
     have:=go.up j x hj y hy;exact vE (i:=j) (by rw[List.take_take,IE (by omega)];exact this)
    ·rw[au PU]at hj;cases hj
   have PV:∀y∈Ps os[i],y∈os.take i:=go.up i os[i] (bH dH);have rR:os[i]∈ks:=go.sub _ (jf dH);have ui:os[i] ∉ os.take i:=by
    have:(os.take (i+1)).Nodup:=go.nd.sublist (yN _ _);rw[lP]at this;exact fun z=>(jg.mp this).2.2 _ z _ aZ rfl
   have fil:fi.length=i:=by
    rw[m.pm.length_eq];unfold cM;rw[ax,cK];omega
   have P3:=P2.new (o:= .tup [.int (i:Int),V.str os[i]]) qm;have S3:=ay (o:= .tup [.int (i:Int),V.str os[i]]) qm;refine⟨tt,_,rfl,aG.of ag,rfl,_,_,rfl,_,_,rfl,rfl,?_⟩;generalize upd H2 tt (.tup [.int (i:Int),V.str os[i]])=H3 at P3 S3 ⊢;refine⟨_,rfl,_,rfl,_,rfl,_,rfl,_,rfl,_,rfl,o,_,rfl,ak.of (S3 _ _ h2),fun sl A3=>?_⟩;have ec:d6 (os.map V.str) none (some (i:Int))=(os.take i).map V.str:=by rw[zQ,II]
   rw[ec];have P4:=P3.new (o:= .lst ((os.take i).map V.str)) A3;have S4:=S3.trans (ay (o:= .lst ((os.take i).map V.str)) A3);have h4:upd H3 sl (.lst ((os.take i).map V.str)) sl=some (.lst ((os.take i).map V.str)):=ag;generalize upd H3 sl (.lst ((os.take i).map V.str))=H4 at P4 S4 h4 ⊢;refine Zg P4.ok h4 (by rw[cK];omega) fun oo own rest H5 PX aaY PY Ha h5=>?_
   have P5:bp p H4 H5:=⟨PY,Ha⟩;have P25:bp p H H5:=P4.trans P5;have f5:=(f2.same S4).keep P4.ok Ha;have G':=Ha _ _ (S4 _ _ h2) nop;have iI:∀y∈own,y∈os.take i:=fun y hy=>PX.mem_iff.mp (lR _ hy);refine Zm f5 m.al (by omega) nm (fun z=>ns (sub _ (m.key.mp z))) h5 (jg.mp (PX.nodup_iff.mpr Gj)).1 aaY (fun x hx=>m.key.mpr (iI x hx)) fun H6 S6=>⟨true,rfl,?_⟩
   have P6:=P25.trans (nO PY S6);have R6:=R.keep pk P6.kp;obtain⟨a,dg,ha⟩:=R6.get rR;refine⟨_,rfl,_,rfl,_,rfl,_,rfl,d,.ref a,rfl,dg,a,_,rfl,.inl ⟨ak.of ha,fun pa kU=>?_⟩⟩;have S7:=ay (o:= .tup ((Ps os[i]).map V.str)) kU;have f7:=(f5.same S6).same S7;have er:rowsOf (bo fi) (Ps os[i])=rowsOf L (Ps os[i]):=sH fun x h=>m.line R.fm k8 sub up (PV x h);obtain⟨og,hg,hL⟩:=R.fm.ln _ rR;obtain⟨kY,pp4,_⟩:=R.fm.ps _ rR;refine Mu f7 m.al (by omega) (R.nm _ rR) (fun z=>ui (m.key.mp z)) ag kY pp4 (fun x hx=>m.key.mpr (PV x hx)) (fun hn=>?_) fun t' told H8 S8 f8 PZ P7 al8 ne8=>?_
   ·rw[er,hg]at hn;cases hn
   have Hb:=S7.trans S8;have P8:=P6.trans (nO P6.ok Hb);have P9:=Hb _ _ (S6 _ _ G');have R8:=R6.same Hb;rw[Ki (fun z=>ui (m.key.mp z))]at PZ;have Hc:told.Perm (cM Ps (os.take (i+1))):=by
    have e1:cM Ps (os.take (i+1))=cM Ps (os.take i) ++ [(os[i],Ps os[i])]:=by rw[lP];unfold cM;rw[bc];rfl
    rw[e1];exact PZ.trans (m.pm.append_right _)
   have GH:d6 (os.map V.str) none (some ((i:Int)+1))=(os.take (i+1)).map V.str:=by rw[show(i:Int)+1=((i+1:Nat):Int) by omega,zQ,II]
   refine⟨_,rfl,_,rfl,i,1,rfl,rfl,_,rfl,o,_,rfl,ak.of P9,fun kE aaZ=>?_⟩;rw[GH];have Hd:=ay (o:= .lst ((os.take (i+1)).map V.str)) aaZ;have Bp:upd H8 kE (.lst ((os.take (i+1)).map V.str)) kE=some (.lst ((os.take (i+1)).map V.str)):=ag;generalize upd H8 kE (.lst ((os.take (i+1)).map V.str))=H9 at Hd Bp ⊢;obtain⟨ds,yG⟩:∃ds,os.take (i+1)=ds:=⟨_,rfl⟩;rw[yG]at Bp Hc;have aa0:∀x∈ds,x∈ks:=fun x hx=>go.sub x (by rw[<-yG]at hx;exact vE hx)
   have ds8:ds.length<=8:=by rw[<-yG,cK];omega
   have dsn:ds.Nodup:=by rw[<-yG];exact go.nd.sublist (yN _ _)
   have R9:=R8.same Hd;refine⟨kE,rfl,⟨_,ak.of Bp⟩,fun c hc=>?_⟩;refine gR (xs:=ds.map V.str) (fun j ys τ J=>∃t0:Option V,τ = [t0,some (.ref d)]/\J c=some (.lst ys)/\ao H9 J/\bE J ys (cM Ps (ds.take j))) ⟨none,rfl,ag,ay hc,.nil⟩ (fun j ys τ J ⟨_,_,z1,z2,_⟩=>⟨z1,ak.of (z2 _ _ Bp)⟩) ?_ ?_
   ·rintro j x ys τ J yr ⟨t1,rfl,hJ,SJ,FJ⟩
    have NJ:j < (ds.map V.str).length:=(bU.mp yr).1;have EF:j < ds.length:=by simpa using NJ
    obtain rfl:V.str ds[j]=x:=by simpa [EF] using yr
    have i9:ds.take (j+1)=ds.take j ++ [ds[j]]:=by rw[df,bH EF];rfl
    obtain⟨a,dg,ha⟩:=(R9.same SJ).get (aa0 _ (jf EF));refine⟨_,rfl,_,rfl,_,rfl,d,.ref a,rfl,dg,?_⟩;refine⟨a,_,rfl,.inl ⟨ak.of ha,fun b hb=>⟨sz 2 (by decide),fun tu yH=>?_⟩⟩⟩
    have Sb:=ay (o:= .tup ((Ps ds[j]).map V.str)) hb;have St:=Sb.trans (ay (o:= .tup [V.str ds[j],.ref b]) yH);have oC:upd (upd J b (.tup ((Ps ds[j]).map V.str))) tu (.tup [V.str ds[j],.ref b]) b=some (.tup ((Ps ds[j]).map V.str)):=by rw[ah (aq ag yH)];exact ag
    have lQ:=St _ _ hJ;refine⟨lQ,?_,cw_next NJ ⟨_,rfl,ag,fun x u hx=>by rw[ah (aq hx hc)];exact St _ _ (SJ x u hx),?_⟩⟩
    ·have:=FJ.length
     unfold cM at this;rw[ax,cK]at this;rw[aE];omega
    ·have ef:cM Ps (ds.take (j+1))=cM Ps (ds.take j) ++ [(ds[j],Ps ds[j])]:=by rw[i9];unfold cM;rw[bc];rfl
     rw[ef];refine bE.append (FJ.keep fun x xs hx=>?_) ?_ ?_ (b:=b)
     ·rw[ah (bY hx hJ (by intro z;cases z))];exact St _ _ hx
     ·rw[ah (bY ag lQ (by intro z;cases z))];exact ag
     ·rw[ah (bY oC lQ (by intro z;cases z))];exact oC
   rintro ys τ J ⟨t1,rfl,hJ,SJ,FJ⟩;rw[ax,du]at FJ;obtain⟨EG,K7,ek⟩:=FJ.keyed;have u7:=FJ.length;have hlk:(cM Ps ds).length=ds.length:=by unfold cM;exact ax ..
   have knd:((cM Ps ds).map (·.1)).Nodup:=by rw[Cg];exact dsn
   refine⟨c,_,EG,1,rfl,.inl (ak.of hJ),K7,aO _,by rw[ek];exact vT knd,by omega,fun D cq eJ hD ff hK pY gZ=>?_⟩
   obtain⟨w6,gg,F8⟩:=vI ff FJ;rw[vO F8 hK]at gZ;have G2:gO w6:=by
    unfold gO;rw[sq]at gZ ⊢;exact gZ.imp fun {a b} z=>by rw[zG]at z;exact z
   obtain rfl:told=w6:=zT P7 G2 (Hc.trans gg.symm);have T6:=ay (o:= .lst cq) hD;refine⟨D,cq,rfl,.inl ⟨ak.of ag,fun t2 G3=>?_⟩⟩;have T7:=T6.trans (ay (o:= .tup cq) G3);have Qa:FA _ t2 told:=⟨f8.1,cq,ag,bE.same F8 T7⟩;have SE:=Hd.trans (SJ.trans T7);generalize upd (upd J D (.lst cq)) t2 (.tup cq)=uI at Qa SE ⊢;have He:=f8.same SE;obtain⟨_,aiO,aa1,_⟩:=id He;refine⟨_,rfl,⟨_,.inr ⟨"tuple",rfl⟩⟩,.ref t',.ty "tuple",.type "tuple",.type "tuple",true,rfl,rfl,.inl (.tup aa1),rfl,true,rfl,?_⟩;refine⟨_,rfl,_,rfl,Yd He Qa ⟨_,rfl,?_⟩⟩;refine⟨t',told,_,_,_,rfl,P8.trans (nO P8.ok SE),SE _ _ P9,He,f8.1,by rw[yG];exact Hc,P7,al8⟩
  ·rintro σ H2 ⟨ft,fi,v6,v7,v8,rfl,P2,h2,f2,m⟩
   rw[ax,du]at m;have R2:=R.keep pk P2.kp;have op:=go.perm R.nd rN;obtain rfl:fi=aa:=zT m.so R.so (m.pm.trans ((op.map _).trans R.pm.symm));refine⟨_,rfl,_,rfl,L8 f2 R2.fa ⟨true,rfl,?_⟩⟩;refine⟨_,rfl,Ya f2 m.al m.so fun H3 S3=>⟨true,true,rfl,rfl,?_⟩⟩;exact q _ (P2.trans (nO P2.ok S3))
end
def t5 (f:Str->Str) (rows:List (List Str)):Prop:= ∀x y,(∃r∈rows,x∈r)->(∃r∈rows,y∈r)->f x=f y->x=y
def hU (f:Str->Str) (rows:List (List Str)):List (List Str):=rows.map fun r=>r.map f
theorem V' {f:Str->Str}{all:List (List Str)} (h:t5 f all) {x:Str} (hx:∃r∈all,x∈r):b9 0 (hU f all) (f x)=none ↔ b9 0 all x=none:=by
 rw[sM,sM]
 constructor
 ·intro z r hr ja
  have:=z _ (aS.mpr ⟨r,hr,rfl⟩) (aS.mpr ⟨x,ja,rfl⟩);cases r with
  |nil=>simp at ja
  |cons y t =>
   have e:f y=f x:=by simpa using this
   rw[h y x ⟨y::t,hr,aZ⟩ hx e];rfl
 ·intro z q hq hxq
  obtain⟨r,hr,rfl⟩:=aS.mp hq;obtain⟨y,hy,e⟩:=aS.mp hxq;have GX:=h y x ⟨r,hr,hy⟩ hx e;subst GX;have:=z r hr hy;cases r with
  |nil=>simp at hy
  |cons w t =>
   obtain rfl:w=y:=by simpa using this
   rfl
theorem C0 {f:Str->Str}{all:List (List Str)} (h:t5 f all):∀rest:List (List Str),(∀r∈rest,r∈all)->hV (hU f all) (hU f rest)=(hV all rest).map f
 |[],_=>rfl
 |[]::rest,hs=>C0 h rest fun r hr=>hs r (bJ _ hr)
 |(x::t)::rest,hs=>by
  have ih:=C0 h rest fun r hr=>hs r (bJ _ hr);show(if (b9 0 (hU f all) (f x)).isNone then some (f x) else hV (hU f all) (hU f rest))=(if (b9 0 all x).isNone then some x else hV all rest).map f;have hw:=V' h (x:=x) ⟨x::t,hs _ aZ,aZ⟩;cases z:b9 0 all x with
  |none=>rw[hw.mpr z];rfl
  |some q =>
   have:b9 0 (hU f all) (f x)≠none:=fun w=>by rw[hw.mp w]at z;cases z
   cases z2:b9 0 (hU f all) (f x) with
   |none=>exact absurd z2 this
   |some _=>exact ih
theorem Tu {f:Str->Str}{rows:List (List Str)} (h:t5 f rows) {n:Str} (hn:∃r∈rows,n∈r):L2.without (f n) (hU f rows)=hU f (L2.without n rows):=by
 unfold L2.without hU;rw[ji,ji]
 apply y4
 intro r hr;show(r.map f).filter (fun y=>!decide (y=f n))=(r.filter fun y=>!decide (y=n)).map f;rw[List.filter_map]
 congr 1
 apply List.filter_congr
 intro y hy;have:f y=f n ↔ y=n:=⟨fun e=>h y n ⟨r,hr,hy⟩ hn e,fun e=>by rw[e]⟩
 show(!decide (f y=f n)) = !decide (y=n);rw[decide_eq_decide.mpr this]
theorem Xc (f:Str->Str) (rows:List (List Str)):((hU f rows).any fun r=>!r.isEmpty)=rows.any fun r=>!r.isEmpty:=by
 unfold hU;rw[BJ]
 congr 1
 funext r
 cases r <;> rfl
theorem Vg {f:Str->Str}:∀ (m:Nat) (rows:List (List Str)),total rows=m->t5 f rows->aW (total (hU f rows)) (hU f rows)=(aW (total rows) rows).map (List.map f):=by
 intro m
 induction m using Nat.strongRecOn with
 |_ m ih =>
  intro rows hm h;have ea:=Xc f rows;cases hA:rows.any fun r=>!r.isEmpty with
  |false=>rw[vK hA,vK (ea.trans hA)];rfl
  |true =>
   have el:dX (hU f rows)=(dX rows).map f:=C0 h rows fun _ hr=>hr;cases e:dX rows with
   |none =>
    rw[e]at el;rw[vL hA e,vL (ea.trans hA) el];rfl
   |some n =>
    rw[e]at el;have lt:=qy (oV e);rw[vM hA e,vM (ea.trans hA) el,Tu h (oV e)];have hi:t5 f (L2.without n rows):=fun x y hx hy=>h x y (zh.mp hx).2 (zh.mp hy).2;rw[ih _ (by omega) (L2.without n rows) rfl hi,BV,BV]
    congr 1
def qV (nm:List (Str×Str)):List (Key×V):=nm.map fun p=>(Sum.inr p.1,V.str p.2)
def jQ (nm:List (Str×Str)) (x:Str):Str:=match nm.find? fun p=>decide (p.1=x) with|some p=>p.2|none=>x
theorem Xd {nm:List (Str×Str)}{x:Str} (h:x∈nm.map (·.1)):cp (qV nm) (Sum.inr x)=some (V.str (jQ nm x)):=by
 have e:cp (qV nm) (Sum.inr x)=(nm.find? fun p=>decide (p.1=x)).map fun p=>V.str p.2:=by
  unfold cp qV;rw[List.find?_map,BV]
  congr 1
  congr 1
  funext p
  simp
 rw[e];unfold jQ;cases e:nm.find? fun p=>decide (p.1=x) with
 |none =>
  rw[List.find?_eq_none]at e;obtain⟨p,hp,rfl⟩:=aS.mp h;exact absurd (gm rfl) (e p hp)
 |some p=>rfl
theorem Xe (ks ys:List Str):tP ks (ys.map V.str)=qV (ks.zip ys):=by
 unfold tP qV;rw[List.zip_map_right,ji];rfl
theorem zJ:∀ {ks ys:List Str}{i:Nat}{x y:Str},ks.Nodup->ks[i]? = some x->ys[i]? = some y->jQ (ks.zip ys) x=y
 |[],_,i,x,y,_,h,_=>by simp at h
 |_::_,[],i,x,y,_,_,h=>by simp at h
 |k::ks,w::ys,0,x,y,_,h1,h2=>by
  obtain rfl:k=x:=by simpa using h1
  obtain rfl:w=y:=by simpa using h2
  unfold jQ;rw[List.zip_cons_cons,List.find?_cons_of_pos (by simp)]
 |k::ks,w::ys,i+1,x,y,nd,h1,h2=>by
  have Qb:ks[i]? = some x:=by simpa using h1
  have bx:k≠x:=fun z=>(eP.mp nd).1 (z ▸ gB Qb);have ih:=zJ (eP.mp nd).2 Qb (by simpa using h2)
  unfold jQ at ih ⊢;rw[List.zip_cons_cons,List.find?_cons_of_neg (by simpa using bx)]
  exact ih
theorem Wa {ks ys:List Str} (hk:ks.Nodup) (hy:ys.Nodup) (hl:ys.length=ks.length) {a b:Str} (ha:a∈ks) (hb:b∈ks) (e:jQ (ks.zip ys) a=jQ (ks.zip ys) b):a=b:=by
 obtain⟨i,hi,rfl⟩:=vz ha;obtain⟨j,hj,rfl⟩:=vz hb;have ei:=zJ hk (bH hi) (bH (show i < ys.length by omega))
 have ej:=zJ hk (bH hj) (bH (show j < ys.length by omega))
 rw[ei,ej]at e;have gv:i=j:=(QM hy).mp e;subst gv;rfl
theorem Xf {ks ys:List Str} (hk:ks.Nodup) (hl:ys.length=ks.length) (hn:∀y∈ys,Nm y) {a:Str} (ha:a∈ks):Nm (jQ (ks.zip ys) a):=by
 obtain⟨i,hi,rfl⟩:=vz ha;rw[zJ hk (bH hi) (bH (show i < ys.length by omega))]
 exact hn _ (jf _)
def jx (g:Str->Str) (aa:aI):aI:=aa.map fun p=>(g p.1,p.2.map g)
theorem Dq {aa:aI}{k:Str}{l:List Str} (h:bV aa k l):k∈keysOf aa:=by
 cases h with
 |mk hm _ _=>exact aS.mpr ⟨_,hm,rfl⟩
theorem Xg {aa:aI} (s:ck aa) {k:Str}{l:List Str} (h:bV aa k l):∀y∈l,y∈keysOf aa:=fun y hy=>by
 obtain⟨m,hm,_⟩:=(bV.nodup s h).2 y hy;exact Dq hm
theorem Xh {g:Str->Str}{aa:aI} (s:ck aa) (inj:∀x∈keysOf aa,∀y∈keysOf aa,g x=g y->x=y) {k:Str}{l:List Str} (h:bV aa k l):bV (jx g aa) (g k) (l.map g):=by
 induction h with
 |mk hm hx hg ih =>
  rename_i k ps L o
  have pk:∀x∈ps,x∈keysOf aa:=fun x ez=>Dq (hx x ez);have fnd:∀x∈ps,ps.find? (fun z=>decide (g z=g x))=some x:=fun x ez=>by
   cases e:ps.find? (fun z=>decide (g z=g x)) with
   |none=>exact absurd (gm rfl) (List.find?_eq_none.mp e x ez)
   |some y =>
    have h1:g y=g x:=by simpa using List.find?_some e
    rw[inj y (pk y (List.mem_of_find?_eq_some e)) x (pk x ez) h1]
  let L':Str->List Str:=fun y=>match ps.find? (fun z=>decide (g z=y)) with|some x=>(L x).map g|none=>[]
  have eL:∀x∈ps,L' (g x)=(L x).map g:=fun x ez=>by show(match ps.find? (fun z=>decide (g z=g x)) with|some x=>(L x).map g|none=>[])=_;rw[fnd x ez]
  have er:rowsOf L' (ps.map g)=hU g (rowsOf L ps):=by
   unfold rowsOf hU;rw[bc,ji,ji]
   congr 1
   exact y4 fun x ez=>eL x ez
  have io:t5 g (rowsOf L ps):=by
   have key:∀x,(∃r∈rowsOf L ps,x∈r)->x∈keysOf aa:=fun x ⟨r,hr,ja⟩=>by
    rcases nJ.mp hr with⟨y,hy,rfl⟩|rfl
    ·exact Xg s (hx y hy) x ja
    ·exact pk x ja
   exact fun x y h1 h2 e=>inj x (key x h1) y (key y h2) e
  have i6:(g k,ps.map g)∈jx g aa:=aS.mpr ⟨(k,ps),hm,rfl⟩;have mg:aW (total (rowsOf L' (ps.map g))) (rowsOf L' (ps.map g))=some (o.map g):=by
   rw[er,Vg _ _ rfl io,hg];rfl
  refine bV.mk i6 (fun y hy=>?_) mg;obtain⟨x,ez,rfl⟩:=aS.mp hy;rw[eL x ez];exact ih x ez
theorem nodup_map_on {g:Str->Str}:∀ {l:List Str},(∀x∈l,∀y∈l,g x=g y->x=y)->l.Nodup->(l.map g).Nodup
 |[],_,_=>lY
 |x::l,h,nd=>by
  obtain⟨h1,h2⟩:=eP.mp nd;rw[cA,eP];refine⟨fun z=>?_,nodup_map_on (fun a ha b hb=>h a (bJ _ ha) b (bJ _ hb)) h2⟩;obtain⟨y,hy,e⟩:=aS.mp z;exact h1 (by rw[<-h y (bJ _ hy) x aZ e];exact hy)
theorem Xi {g:Str->Str}{aa:aI} (s:ck aa) (inj:∀x∈keysOf aa,∀y∈keysOf aa,g x=g y->x=y) (nm:∀x∈keysOf aa,Nm (g x)):ck (jx g aa):=by
 have mem:∀ {q:Str×List Str},q∈jx g aa -> ∃p∈aa,q=(g p.1,p.2.map g):=fun {q} h=>by
  obtain⟨p,hp,rfl⟩:=aS.mp h;exact⟨p,hp,rfl⟩
 have iq:∀p∈aa,p.1∈keysOf aa:=fun p hp=>aS.mpr ⟨p,hp,rfl⟩;have pin:∀p∈aa,∀x∈p.2,x∈keysOf aa:=fun p hp x hx=>by obtain⟨q,hq,rfl⟩:=s.up p hp x hx;exact iq q hq
 refine⟨?_,by unfold jx;rw[ax];exact s.bw,fun q hq=>?_,fun q hq y hy=>?_,fun q hq=>?_,fun q hq=>?_⟩
 ·unfold jx
  rw[ji];have e:(aa.map ((fun x=>x.1) ∘ fun p=>(g p.1,p.2.map g)))=(aa.map (·.1)).map g:=by rw[ji];rfl
  rw[e];refine nodup_map_on ?_ s.nd;exact fun x hx y hy=>inj x hx y hy
 ·obtain⟨p,hp,rfl⟩:=mem hq;exact nm _ (iq p hp)
 ·obtain⟨p,hp,rfl⟩:=mem hq
  obtain⟨x,hx,rfl⟩:=aS.mp hy;obtain⟨r,hr,rfl⟩:=s.up p hp x hx;exact⟨_,aS.mpr ⟨r,hr,rfl⟩,rfl⟩
 ·obtain⟨p,hp,rfl⟩:=mem hq
  show(p.2.map g).length<=4;rw[ax];exact s.four p hp
 ·obtain⟨p,hp,rfl⟩:=mem hq
  exact nodup_map_on (fun x hx y hy=>inj x (pin p hp x hx) y (pin p hp y hy)) (s.kY p hp)
section
variable{P:Program}{w:World}{K:Frag}{mg:Str->Option Value}{base:Heap}{f:Addr}{fd:FuncData}
@[irreducible] def uB:Sp:=fun vs H Q _=>∃ (ks:List Str) (t d n:Addr) (kvs:List (Key×V)) (L Ps:Str->List Str) (aa:aI) (ys:List Str),vs = [.ref t,.ref d,.ref n]/\cF H ks t d kvs L Ps aa/\ks ≠ []/\H n=some (.lst (ys.map V.str))/\ys.Nodup/\(∀y∈ys,Nm y)/\ys.length=ks.length /\ ∀H',(∀b u,H b=some u->b≠d->H' b=some u)->Q (.bl true) H'
theorem Zs {ks:List Str}{t d n:Addr}{kvs:List (Key×V)}{L Ps:Str->List Str}{aa:aI}{ys:List Str}{H:Hp}{Q:VK}{E:XK} (R:cF H ks t d kvs L Ps aa) (ne:ks ≠ []) (hn:H n=some (.lst (ys.map V.str))) (nd:ys.Nodup) (nm:∀y∈ys,Nm y) (hl:ys.length=ks.length) (q:∀H',(∀b u,H b=some u->b≠d->H' b=some u)->Q (.bl true) H'):uB [.ref t,.ref d,.ref n] H Q E:=by
 unfold uB;exact⟨ks,t,d,n,kvs,L,Ps,aa,ys,rfl,R,ne,hn,nd,nm,hl,q⟩
abbrev Hf:List Str:= ["_law_family_here","_law_parents_here","_law_names_here","_law_table","_law_other","_law_kind"]
theorem Ak:b8 Hf ["_law_family_here","_law_parents_here","_law_names_here"] (aJ qJ):=⟨rfl,rfl,rfl,by decide +kernel,rfl,by decide +kernel,by decide +kernel⟩
def Zt (e:Expr) (i:Nat):Expr:=match e with|.Tuple es _ _=>es.getD i (.Constant .none 0 ⟨0,0,0,0⟩)|_=>.Constant .none 0 ⟨0,0,0,0⟩
def Zu (e:Expr):Expr:=match e with|.Compare _ _ (b::_) _=>b|_=>.Constant .none 0 ⟨0,0,0,0⟩
abbrev Hg:Expr:=eY (eY (eK (cb (cu qJ) 1)))
abbrev eC2:Expr:=eY (Zt (DO Hg) 1)
abbrev eC3:Expr:=eY (Zu (tG (cb (z4 (cb (cu qJ) 2)) 0)))
theorem EH:bX Hf (aJ qJ) ["_law_kind","_law_own","_law_table"] [none,none,some 3] (cj Hg):=⟨rfl,by decide +kernel,by decide +kernel,rfl,cU (by decide +kernel),by decide +kernel⟩
theorem aa2 {env:Env}:bX ["_law_kind","_law_own","_law_table"] (relabel (cj Hg) env) ["_law_one","_law_table"] [none,some 2] (cj eC2):=nest rfl (by decide +kernel) (by decide +kernel) rfl (by decide +kernel) (by decide +kernel)
theorem aa3:(["_law_one","_law_table"]:List Str).Nodup:=by decide +kernel
theorem NK:bX Hf (aJ qJ) ["_law_one","_law_table"] [none,some 3] (cj eC3):=⟨rfl,by decide +kernel,by decide +kernel,rfl,cU (by decide +kernel),by decide +kernel⟩
theorem Zv {fO:Addr}{dO:FuncData} (F:aX K "_law_called_right" "_law_called_right" qJ f fd) (B:dJ mg) (B2:gr mg) (bz:mg "zip" = none)
  (GO:aH P w K mg base aK 6 fO dO ["family","kind"] qH) (kO:keepIn K (.ref fO)=true) (bO:Binds K dO ["family","kind"] []) (mO:mg "line_of" = some (.ref fO)) :
  aH P w K mg base aK 7 f fd ["_law_family_here","_law_parents_here","_law_names_here"] uB:=by
 refine F.ok Ak (fun vs H Q E h=>?_) (fun cdv A outer s H vs Q E hr h=>?_)
 ·unfold uB at h;obtain⟨ks,t,d,n,kvs,L,Ps,aa,ys,rfl,_⟩:=h;rfl
 ·unfold uB at h
  obtain⟨ks,t,d,n,kvs,L,Ps,aa,ys,rfl,R,pX,hn,Hh,Hi,yl,q⟩:=h;have hu:=hr.units;have eu:=qw (qx (show 1<=64 by decide) _) hu
  have nu:aV 6 _:=hr;refine⟨_,aC (br (i:=3) Ak.nd rfl (Or.inr rfl) (Tr rfl rfl rfl B2.dict bz (af (pv 1) (af (pv 2) ai))))
   (aC (br (i:=4) Ak.nd rfl (Or.inl rfl) (cY jl rfl B.tuple boot_tuple (af (a8 vG rfl B2.sorted boot_sorted (af (dv rfl EH (jN (pv 0)) (fun s H fp=>⟨CZ (n:=2) K rfl rfl (eW (aU (i:=0) EH.nd rfl (Or.inl rfl)) (eW (aU (i:=1) EH.nd rfl (Or.inl rfl)) lj)),eF,
     kj (af (lq eu (pv 2) (pv 0) (fun _ _=>rfl)) (af (cY (zf K rfl) rfl B.tuple boot_tuple (af (dv rfl aa2 (CI K rfl (pv 1)) (fun s H fp=>⟨aU (i:=0) aa3 rfl (Or.inl rfl),eF,lq eu (pv 1) (pv 0) (fun _ _=>rfl)⟩)) ai)) ai))⟩)) ai)) ai)))
   (aC (jO ke rfl (WC (pv 1)) (aU (i:=5) Ak.nd rfl (Or.inl rfl))
    (aM (dj (d5 (zM hu) (bf GO nu rfl mO kO bO .nil bh (af (pv 4) (af (lq eu (pv 3) (pv 5) (fun _ _=>rfl)) ai))) (cY jl rfl B.tuple boot_tuple (af (dv rfl NK (jN (bf GO nu rfl mO kO bO .nil bh (af (pv 0) (af (pv 5) ai)))) (fun s H fp=>⟨aU (i:=0) NK.nd rfl (Or.inl rfl),eF,lq eu (pv 1) (pv 0) (fun _ _=>rfl)⟩)) ai)) (cZ _)) (aM (bg gE)) dh)))
   (aM (bg gE)))),?_⟩
  have k8:=R.k8;have sz:∀n:Nat,n<=100->n<=sizeLine:=fun n h=>by rw[aE];omega
  refine⟨_,rfl,_,rfl,d,n,kvs,ks,ys.map V.str,rfl,R.hd,R.hk,pX,hn,R.nd,by rw[ax];exact yl.symm,fun T hT=>?_⟩
  rw[Xe];have kz:(ks.zip ys).map (·.1)=ks:=RK (by omega)
  have hv:∀x∈ks,cp (qV (ks.zip ys)) (Sum.inr x)=some (V.str (jQ (ks.zip ys) x)):=fun x hx=>Xd (by rw[kz];exact hx)
  have NL:∀x∈ks,∀y∈ks,jQ (ks.zip ys) x=jQ (ks.zip ys) y->x=y:=fun x hx y hy e=>Wa R.nd Hh yl hx hy e;have Hj:∀x∈ks,Nm (jQ (ks.zip ys) x):=fun x hx=>Xf R.nd yl Hi hx;generalize jQ (ks.zip ys)=g at hv NL Hj;generalize qV (ks.zip ys)=tb at hv;have inj:∀x∈keysOf aa,∀y∈keysOf aa,g x=g y->x=y:=fun x hx y hy=>NL x (R.key.mp hx) y (R.key.mp hy);have Qc:ck (jx g aa):=Xi R.st inj fun x hx=>Hj x (R.key.mp hx);have S1:=ay (o:= .dK tb) hT;have Hk:upd H T (.dK tb) T=some (.dK tb):=ag;generalize upd H T (.dK tb)=H1 at S1 Hk ⊢;have R1:=R.same S1;obtain⟨ws,ht,hf⟩:=R1.fv;have hlen:=hf.length;have fl:=R.len;refine⟨_,rfl,t,rfl,⟨_,aG.of ht⟩,fun c hc=>?_⟩;refine jK (xs:=ws) (fun i zs τ J=>∃t0 t1:Option V,τ = [t0,t1,some (.ref T)]/\J c=some (.lst zs)/\ao H1 J/\bE J zs (jx g (aa.take i))) ⟨none,none,rfl,ag,ay hc,.nil⟩ (fun i zs τ J ⟨_,_,_,z1,z2,_⟩=>⟨z1,aG.of (z2 _ _ ht)⟩) ?_ ?_
  ·rintro i x zs τ J hx ⟨t0,t1,rfl,hJ,SJ,FJ⟩
   have aP:i < ws.length:=(bU.mp hx).1;obtain⟨r,cW,a,b,rfl,ha,hb⟩:=lr (hf.same SJ) hx;have oA:=R.mem.mp (gB cW);have tk:jx g (aa.take (i+1))=jx g (aa.take i) ++ [(g r.1,r.2.map g)]:=by rw[df,cW];unfold jx;rw[bc];rfl
   have aa4:∀x∈r.2,x∈ks:=fun x hx=>by rw[oA.2]at hx;exact R.pin oA.1 hx
   have r4:r.2.length<=4:=R.st.four r (gB cW);have Qd:=SJ _ _ Hk;refine⟨a,_,rfl,aG.of ha,rfl,_,_,rfl,_,_,rfl,rfl,?_⟩;refine⟨_,rfl,_,rfl,T,.str (g r.1),rfl,.inl ⟨tb,Sum.inr r.1,.inl Qd,rfl,(hv r.1 oA.1).symm⟩,_,rfl,b,rfl,⟨_,aG.of hb⟩,fun e he=>Cw hb Qd (g:=fun x=>V.str (g x)) (fun x hx=>hv x (aa4 x hx)) he (by omega) ?_⟩
   have em:r.2.map (fun x=>V.str (g x))=(r.2.map g).map V.str:=by rw[ji];rfl
   rw[em];have Se:=ay (o:= .lst ((r.2.map g).map V.str)) he;refine⟨e,_,rfl,.inl ⟨ak.of ag,fun b2 xH=>⟨sz 2 (by decide),fun tu yH=>?_⟩⟩⟩
   have Sb:=Se.trans (ay (o:= .tup ((r.2.map g).map V.str)) xH);have St:=Sb.trans (ay (o:= .tup [V.str (g r.1),.ref b2]) yH);have oC:upd (upd (upd J e (.lst ((r.2.map g).map V.str))) b2 (.tup ((r.2.map g).map V.str))) tu (.tup [V.str (g r.1),.ref b2]) b2=some (.tup ((r.2.map g).map V.str)):=by rw[ah (aq ag yH)];exact ag
   have qm:upd (upd (upd J e (.lst ((r.2.map g).map V.str))) b2 (.tup ((r.2.map g).map V.str))) tu (.tup [V.str (g r.1),.ref b2]) tu=some (.tup [V.str (g r.1),.ref b2]):=ag;generalize upd (upd (upd J e (.lst ((r.2.map g).map V.str))) b2 (.tup ((r.2.map g).map V.str))) tu (.tup [V.str (g r.1),.ref b2])=J2 at St oC qm ⊢;have lQ:=St _ _ hJ;refine⟨lQ,?_,cw_next aP ⟨_,_,rfl,ag,fun x u hx=>by rw[ah (aq hx hc)];exact St _ _ (SJ x u hx),?_⟩⟩
   ·have:=FJ.length
    unfold jx at this;rw[ax,cK]at this;rw[aE];omega
   ·rw[tk]
    refine bE.append (FJ.keep fun x xs hx=>?_) ?_ ?_ (b:=b2)
    ·rw[ah (bY hx hJ (by intro z;cases z))];exact St _ _ hx
    ·rw[ah (bY qm lQ (by intro z;cases z))];exact qm
    ·rw[ah (bY oC lQ (by intro z;cases z))];exact oC
  rintro zs τ J ⟨t0,t1,rfl,hJ,SJ,FJ⟩;rw[hlen,du]at FJ;obtain⟨EG,K7,ek⟩:=FJ.keyed;have u7:=FJ.length;have rl:(jx g aa).length=aa.length:=by unfold jx;rw[ax]
  refine⟨c,_,EG,1,rfl,.inl (ak.of hJ),K7,aO _,by rw[ek];exact vT Qc.nd,by omega,fun D cq eJ hD ff hK pY gZ=>?_⟩
  obtain⟨other,gg,F8⟩:=vI ff FJ;refine⟨D,cq,rfl,.inl ⟨ak.of ag,fun oa i8=>?_⟩⟩;have T7:=(ay (o:= .lst cq) hD).trans (ay (o:= .tup cq) i8);have Hl:=Qc.perm gg;have fO:FA (upd (upd J D (.lst cq)) oa (.tup cq)) oa other:=⟨Hl,cq,ag,bE.same F8 T7⟩;have S5:=S1.trans (SJ.trans T7);have Qe:=(SJ.trans T7) _ _ Hk;generalize upd (upd J D (.lst cq)) oa (.tup cq)=H5 at fO S5 Qe ⊢;have EI:∀x∈ks,bV other (g x) ((L x).map g):=fun x hx=>(zC gg).mpr (Xh R.st inj (R.has hx));have alO:fg other:=fun p hp=>by
   obtain⟨q,hq,rfl⟩:=aS.mp (gg.mem_iff.mp hp);exact(EI q.1 (R.mem.mp hq).1).ln Hl
  have R5:=R.same S5;refine⟨_,rfl,d,kvs,rfl,.inl ⟨R5.hd,fun o=>?_⟩⟩;have Qf:∀ {b:Addr}{u:HO},H5 b=some u->(∀z,u ≠ .dK z)->b≠d:=fun {b u} e h z=>by rw[z,R5.hd]at e;cases e;exact h _ rfl
  have nTd:T≠d:=fun z=>by rw[z,R.hd]at hT;cases hT
  have kp:∀b u,b≠d->H5 b=some u->upd H5 d (.dE o (.dK kvs)) b=some u:=fun b u n e=>by rw[ah n];exact e
  have h6:upd H5 d (.dE o (.dK kvs)) d=some (.dE o (.dK kvs)):=ag;generalize upd H5 d (.dE o (.dK kvs))=H6 at kp h6 ⊢;have Qg:∀ {a:Addr}{fm:aI},FA H5 a fm->FA H6 a fm:=fun {a fm} ⟨st,us,e,fv⟩=>⟨st,us,kp _ _ (Qf e fun _ z=>by cases z) e,fv.keep fun b xs e=>kp _ _ (Qf e fun _ z=>by cases z) e⟩
  have fO6:=Qg fO;have f6:=Qg R5.fa;have Qh:=kp _ _ nTd Qe;refine VF (fun i σ J=>∃v5:Option V,σ = [some (.ref t),some (.ref d),some (.ref n),some (.ref T),some (.ref oa),v5]/\ao H6 J) ⟨none,rfl,ao.refl _⟩ (fun i σ J _ ⟨_,_,z⟩=>z _ _ h6) ?_ ?_
  ·rintro i ⟨kx,vx⟩ σ J hi ⟨v5,rfl,yI⟩
   obtain⟨x,hx,rfl⟩:∃x∈ks,kx=Sum.inr x:=by
    have:kx∈kvs.map (·.1):=aS.mpr ⟨_,gB hi,rfl⟩;rw[R.hk]at this;obtain⟨x,hx,e⟩:=aS.mp this;exact⟨x,hx,e.symm⟩
   have Bn:=R.key.mpr hx;refine⟨_,rfl,_,rfl,_,rfl,T,.str (g x),rfl,.inl ⟨tb,Sum.inr x,.inl (yI _ _ Qh),rfl,(hv x hx).symm⟩,CA (fO6.same yI) alO (Dq (EI x hx)) fun p1 J1 SJ1 h1=>?_⟩;have Qi:=yI.trans SJ1;refine⟨_,rfl,_,rfl,CA (f6.same Qi) R.all Bn fun p2 J2 Qj h2=>?_⟩;rw[R.line hx]at h2;rw[(EI x hx).line Hl]at h1;have Qk:=Qi.trans Qj;have l8:=R.ln8 hx;refine⟨p2,rfl,⟨_,aG.of h2⟩,fun e he=>Cw h2 (Qk _ _ Qh) (g:=fun x=>V.str (g x)) (fun y hy=>hv y ((R.fm.ld x hx).2 y hy)) he (by omega) ?_⟩
   have em:(L x).map (fun x=>V.str (g x))=((L x).map g).map V.str:=by rw[ji];rfl
   rw[em];have Se:=ay (o:= .lst (((L x).map g).map V.str)) he;refine⟨e,_,rfl,.inl ⟨ak.of ag,fun tt qm=>?_⟩⟩;have Ql:=Se.trans (ay (o:= .tup (((L x).map g).map V.str)) qm);refine W' (Ql _ _ (Qj _ _ h1)) ag (fun y hy=>?_) ⟨_,rfl,_,rfl,Qk.trans Ql⟩;obtain⟨z,hz,rfl⟩:=aS.mp hy;exact Hj z ((R.fm.ld x hx).2 z hz)
  ·rintro σ J ⟨v5,rfl,yI⟩
   exact q _ fun b u e n=>yI _ _ (kp b u n (S5 _ _ e))
end
theorem Vh:bootBuiltins "max" = some (.builtin "max"):=by decide +kernel
section
variable{P:Program}{w:World}{K:Frag}{mg:Str->Option Value}{base:Heap}{f:Addr}{fd:FuncData}
theorem Yg {a:Addr}{ns:List Int}{k:Int}{H:Hp}{Q:VK}{E:XK} (h:ak K H a (ns.map V.int)) (k0:0<=k) (k1:k<=100) (hl:ns.length<=63) (q:∀p H',H p=none->dZ p H'->ao H H'->Q (.ref p) H'):tT K [.ref a,.int k] H Q E:=by
 unfold tT;exact⟨a,ns,k,rfl,h,k0,k1,hl,fun p x y hp x0 y0 y1=>q p _ hp ⟨x,y,ag,x0,y0,y1⟩ (ay hp)⟩
theorem K4 {p:Addr}{m:Nat}{H:Hp}{Q:VK}{E:XK} (h:dZ p H) (hm:m<=20) (q:∀ (l:Addr) (ys:List Str) (H':Hp),H l=none->ys.length=m->(∀y∈ys,Nm y)->ys.Nodup->bp p H H'->H' l=some (.lst (ys.map V.str))->Q (.ref l) H'):sX [.ref p,.int m] H Q E:=by
 unfold sX;exact⟨p,m,rfl,h,hm,q⟩
theorem Wb {H H':Hp}{a:Addr}{xs:List V} (h:ak K H a xs) (s:ao H H'):ak K H' a xs:=by
 rcases h with(h|⟨o,h⟩)|h
 ·exact .inl (.inl (s _ _ h))
 ·exact .inl (.inr ⟨o,s _ _ h⟩)
 ·exact .inr h
@[irreducible] def qW (K:Frag):Sp:=fun vs H Q _=>∃ (a:Addr) (ns:List Int),vs = [.ref a]/\ak K H a (ns.map V.int)/\ns.length<=63 /\ ∀H',Q (.bl true) H'
abbrev aa5:List Str:= ["_law_script","_law_k","_law_pot_here","_law_names_here","_law_family_here","_law_lines","_law_parents_here","_law_turn"]
theorem pF:b8 aa5 ["_law_script"] (aJ Ee):=⟨rfl,rfl,rfl,by decide +kernel,rfl,by decide +kernel,by decide +kernel⟩
theorem Yh {fP fD fN fF fM fC:Addr}{dP dD dN dF dM dC:FuncData} (F:aX K "law" "law" Ee f fd) (B:dJ mg) (B2:gr mg)
  (GP:aH P w K mg base aK 1 fP dP ["_law_script","_law_k"] (tT K)) (kP:keepIn K (.ref fP)=true) (bP:Binds K dP ["_law_script","_law_k"] []) (mP:mg "_law_pot" = some (.ref fP))
  (GD:aH P w K mg base aK 1 fD dD ["_law_pot_here","_law_many"] my) (kD:keepIn K (.ref fD)=true) (bD:Binds K dD ["_law_pot_here","_law_many"] []) (mD:mg "_law_digit" = some (.ref fD))
  (GN:aH P w K mg base aK 3 fN dN ["_law_pot_here","_law_many"] sX) (kN:keepIn K (.ref fN)=true) (bN:Binds K dN ["_law_pot_here","_law_many"] []) (mN:mg "_law_names" = some (.ref fN))
  (GF:aH P w K mg base aK 3 fF dF ["_law_pot_here","_law_kinds"] tX) (kF:keepIn K (.ref fF)=true) (bF:Binds K dF ["_law_pot_here","_law_kinds"] []) (mF:mg "_law_family" = some (.ref fF))
  (GM:aH P w K mg base aK 10 fM dM ["_law_pot_here","_law_family_here","_law_parents_here","_law_spare"] uA) (kM:keepIn K (.ref fM)=true) (bM:Binds K dM ["_law_pot_here","_law_family_here","_law_parents_here","_law_spare"] []) (mM:mg "_law_made_right" = some (.ref fM))
  (GC:aH P w K mg base aK 7 fC dC ["_law_family_here","_law_parents_here","_law_names_here"] uB) (kC:keepIn K (.ref fC)=true) (bC:Binds K dC ["_law_family_here","_law_parents_here","_law_names_here"] []) (mC:mg "_law_called_right" = some (.ref fC)) :
  aH P w K mg base aK 11 f fd ["_law_script"] (qW K):=by
 refine F.ok pF (fun vs H Q E h=>?_) (fun cdv A outer s H vs Q E hr h=>?_)
 ·unfold qW at h;obtain⟨a,ns,rfl,_⟩:=h;rfl
 ·unfold qW at h
  obtain⟨a,sc,rfl,hS,jZ,q⟩:=h;have Al:aV 10 _:=hr;have vg:aV 7 _:=Al.mono (by decide)
  have qk:aV 3 _:=Al.mono (by decide)
  have cO:aV 1 _:=Al.mono (by decide)
  refine⟨_,aC (jO ke rfl (nK rfl B.range (af (a8 (JC rfl) rfl B.max Vh (af aN (af (a8 (Ci rfl) rfl B.min boot_min (af aN (af (a8 iE rfl B.len gq (af (pv 0) ai)) ai))) ai))) ai)) (aU (i:=1) pF.nd rfl (Or.inl rfl))
    (aC (br (i:=2) pF.nd rfl (Or.inl rfl) (bf GP cO rfl mP kP bP .nil bh (af (pv 0) (af (pv 1) ai))))
    (aC (br (i:=3) pF.nd rfl (Or.inl rfl) (bf GN qk rfl mN kN bN .nil bh (af (pv 2) (af (cG pq (cG pq aN (bf GD cO rfl mD kD bD .nil bh (af (pv 2) (af aN ai)))) aN) ai))))
    (aC (tq (bf GF qk rfl mF kF bF .nil bh (af (pv 2) (af (mi nP (pv 3) mx (ll (wM wq aN))) ai)))
      (pj rfl (eW (aU (i:=4) pF.nd rfl (Or.inl rfl)) (eW (aU (i:=5) pF.nd rfl (Or.inl rfl)) (eW (aU (i:=6) pF.nd rfl (Or.inl rfl)) lj)))))
    (aC (jO ke rfl (nK rfl B.range (af aN ai)) (aU (i:=7) pF.nd rfl (Or.inl rfl))
     (aM (dj (fq (eG (bf GM Al rfl mM kM bM .nil bh (af (pv 2) (af (pv 4) (af (pv 6) (af (cz fX (pv 3) (wM wq aN) (fun _ _=>rfl)) ai))))))) (aM (bg gE)) dh)))
    (aM (dj (fq (eG (bf GC vg rfl mC kC bC .nil bh (af (pv 4) (af (pv 6) (af (bf GN qk rfl mN kN bN .nil bh (af (pv 2) (af (a8 Cs rfl B.len gq (af (pv 6) ai)) ai))) ai)))))) (aM (bg gE)) dh)))))))
   (aM (bg gE)),?_⟩
  refine⟨_,rfl,a,_,rfl,.inl hS,_,_,rfl,_,_,rfl,_,rfl,?_,?_,qE (fun i σ H1=>∃v1 v2 v3 v4 v5 v6 v7:Option V,σ = [some (.ref a),v1,v2,v3,v4,v5,v6,v7]/\ao H H1) ⟨none,none,none,none,none,none,none,rfl,ao.refl _⟩ (fun i0 σ H1 hi hP=>?_) (fun σ H1 _=>q _)⟩
  ·split <;> (try split) <;> omega
  ·split <;> (try split) <;> omega
  obtain⟨v1,v2,v3,v4,v5,v6,v7,rfl,S1⟩:=hP;have hi6:i0 < 6:=by
   refine gj hi ?_;split <;> (try split) <;> omega
  refine⟨_,rfl,_,rfl,Yg (Wb hS S1) (by omega) (by omega) jZ fun p H2 hp pk S2=>?_⟩
  refine⟨_,rfl,_,rfl,mq (p:=p) (m:=7) pk (by decide) (by decide) fun dg H7 d0 d1' p7=>?_⟩
  obtain⟨dn,rfl⟩:=IH d0;refine⟨1,(dn:Int),rfl,rfl,(1+(dn:Int)),1,rfl,rfl,?_⟩;refine K4 (m:=1+dn+1) p7.ok (by omega) fun nl ns H8 hnl yJ Qm Qn p8 h8=>?_
  obtain⟨ks,sp,rfl⟩:∃ks sp,ns=ks ++ [sp]:=⟨ns.dropLast,ns.getLast (fun z=>by rw[z]at yJ;simp at yJ),(List.dropLast_concat_getLast _).symm⟩
  rw[de,iN]at yJ;have knd:ks.Nodup:=(jg.mp Qn).1;have spn:sp ∉ ks:=fun z=>(jg.mp Qn).2.2 sp z sp aZ rfl;have Bf:∀x∈ks,Nm x:=fun x hx=>Qm x (lR _ hx);have snm:Nm sp:=Qm sp (gk _ aZ);have pX:ks ≠ []:=fun z=>by rw[z]at yJ;simp at yJ
  refine⟨_,rfl,_,rfl,1,rfl,_,rfl,nl,_,rfl,ak.of h8,fun c hc=>?_⟩;have ec:d6 ((ks ++ [sp]).map V.str) none (some (-1))=ks.map V.str:=by rw[KW,List.dropLast_concat]
  rw[ec];have p9:=p8.new (o:= .lst (ks.map V.str)) hc;have h9:upd H8 c (.lst (ks.map V.str)) c=some (.lst (ks.map V.str)):=ag;have Hm:upd H8 c (.lst (ks.map V.str)) nl=some (.lst ((ks ++ [sp]).map V.str)):=by rw[ah (aq h8 hc)];exact h8
  generalize upd H8 c (.lst (ks.map V.str))=H9 at p9 h9 Hm ⊢;refine X2 p9.ok h9 knd Bf (by omega) fun r t d1 d ws kvs L Ps aa HA R9=>?_
  refine⟨r,_,rfl,aG.of R9.hr,rfl,_,_,rfl,_,_,rfl,_,_,rfl,rfl,?_⟩;have RA:cF HA ks t d kvs L Ps aa:=⟨⟨ws,R9.ht,R9.fv⟩,R9.pm,R9.fm,knd,Bf,by omega,R9.hd,R9.hk,R9.pl,R9.so⟩
  have P29:=p7.trans p9;have Hn:=R9.pa.ok;have kl:kvs.length=ks.length:=by have:=eO List.length R9.hk;simpa using this
  have Qo:nl≠p:=zB p9.ok Hm;have hnA:=R9.pa.kp _ _ Hm Qo;have S1A:∀b o,H1 b=some o->b≠p/\b≠d/\HA b=some o:=fun b o z=>by
   have np:=aq z hp;have z9:=P29.kp b o (S2 _ _ z) np;exact⟨np,aq z9 R9.n2,R9.pa.kp b o z9 np⟩
  clear R9;refine⟨2,rfl,by decide,by decide,qE (fun j σ J=>∃v7:Option V,σ = [some (.ref a),some (.int (0+(i0:Int))),some (.ref p),some (.ref nl),some (.ref t),some (.ref d1),some (.ref d),v7]/\dZ p J /\ ∀b o,HA b=some o->b≠p->J b=some o) ⟨v7,rfl,Hn,fun _ _ e _=>e⟩ (fun j σ J hj hP=>?_) (fun σ J hP=>?_)⟩
  ·obtain⟨v7,rfl,Bq,vh⟩:=hP
   have at_:cI ((ks ++ [sp]).map V.str) (-1)=some (V.str sp):=by rw[bc];exact Vo _ _
   refine⟨_,rfl,_,rfl,_,rfl,_,rfl,1,rfl,nl,_,-1,.str sp,rfl,rfl,ak.of (vh _ _ hnA Qo),at_,?_⟩;refine Zq Bq (RA.keep Hn vh) snm spn fun J2 P2=>⟨true,rfl,?_⟩;exact⟨_,rfl,P2.ok,fun b o e n=>P2.kp b o (vh b o e n) n⟩
  ·obtain⟨v7,rfl,Bq,vh⟩:=hP
   have RJ:=RA.keep Hn vh;refine⟨_,rfl,_,rfl,_,rfl,_,rfl,d,kvs,rfl,RJ.hd,?_⟩;refine K4 (m:=kvs.length) Bq (by omega) fun nl2 ys J2 aiP yl Hi Hh P2 h2=>?_
   refine Zs (RJ.keep Bq P2.kp) pX h2 Hh Hi (by omega) fun J3 k3=>⟨true,rfl,?_⟩
   refine⟨_,_,_,_,_,_,_,rfl,fun b o z=>?_⟩;obtain⟨n1,n2,zA⟩:=S1A b o (S1 _ _ z);exact k3 b o (P2.kp b o (vh b o zA n1) n1) n2
end
end j6
namespace j6
open PySem L2 PySem.W
def aa6 (K:Frag) (LE:Addr):Bool:=readsIn K LE (.type "type") && (specialIn K (.ref LE) "__getattribute__" == some (some (.builtin "type.__getattribute__")))
def nsOk (K:Frag) (C:Addr):Bool:=findIn K (.ref C) "kind" == some none && (findIn K (.ref C) "ring" == some none && (keepIn K (.ref C) && mroIn K C (.ref C)==some true))
def r9 (l:List Addr) (i:Nat):Addr:=l.getD i 0
def Zw (K:Frag) (l:List Addr):Bool:=([4,12]:List Nat).all fun i=>(List.range 16).all (fun j=>kitOne K (.ref (r9 l i)) (.ref (r9 l j))==some (decide (i=j))) && (kitOne K (.ref (r9 l i)) (.type "ValueError")==some true)
def Zx (K:Frag) (LE C:Addr):Bool:=mroIn K C (.ref LE)==some true && fc K LE none
theorem all_mk {l:OpenLaw}{w:World}{K:Frag}{h:Heap}{mg:Str->Option Value}{fa:Addr} (X:K.In h) (G:h.Ns mainGlobals mg) (iB:mg "law" = some (.ref fa)) {LE fI g0 g1 g2 g3 g4 g5 g6 g7 g8 g9 vi vj C vk vm vn:Addr}{od an:Option Addr}{sl:Array (Option Value)}{oc kV dc pm cd ct:Value}{tk:Tok}
  (hd:A0 K [pr "merged" wg,pr "least_free" zP,pr "wish_against" tR,pr "ring_within" tE,pr "is_name" we,pr "check_name" Df,pr "are_rising" Dg,pr "is_row" wA,pr "is_family" nQ,pr "is_pair" Dh,pr "is_kind" Di,pr "are_parents" wX,pr "check_kind" Dj,pr "lines_of" tF,pr "line_from" vR,pr "line_of" Dk,pr "kind_made" DM,pr "check_parents" Dl,pr "with_parents" DN,pr "without_kind" vW,pr "_law_pot" Ed,pr "_law_digit" wB,pr "_law_names" nR,pr "_law_merged" mn,pr "_law_line" wC,pr "_law_parents" Cu,pr "_law_family" vX,pr "_law_is_wish" Dx,pr "_law_is_ring" nT,pr "_law_classes" nN,pr "_law_tried" Dy,pr "_law_try_right" wY,pr "_law_some_of" Dm,pr "_law_order" qO,pr "_law_made_right" wD,pr "_law_called_right" qJ,pr "law" Ee])
  (hz:Eb K ["len","max","min","abs","range","any","all","list","tuple","enumerate","isinstance","str","dict","sorted","set","zip","int","bool","ValueError"])
  (hJ:Ec K ["NoName","NoKind","NoParents","Taken","InUse","NoEntry","NoThing","NoNumber","NotAbove","Shut","NoText","NoRow","Ring","Round","Missing","Endless"] [g0,g1,g2,g3,g4,g5,g6,g7,g8,g9,vi,vj,C,vk,vm,vn])
  (Br:nsIn K mainGlobals "LineError" = some (some (.ref LE)))
  (Qp:findIn K (.ref C) "__init__" = some (some (.ref fI)))
  (Ho:isFn K (.ref fI)=true)
  (Bs:fc K C (some (.ref fI))=true)
  (Hq:K.lookup fI=some ⟨oc,od,.func (fnOf "__init__" "Ring.__init__" (qI pC) (cu pC) (aJ pC) .none kV dc pm an cd ct),sl⟩)
  (Hr:codeIn K cd "Ring.__init__" = true)
  (Hs:keepIn K (.ref fI)=true)
  (Ht:DC K C=true)
  (gX:Zw K [g0,g1,g2,g3,g4,g5,g6,g7,g8,g9,vi,vj,C,vk,vm,vn]=true)
  (Hu:Zx K LE C=true)
  (jZ:nsOk K C=true)
  (Bt:aa6 K LE=true)
  (DT:nsIn K mainGlobals "MOST_PARENTS" = some (some (.int 4 tk)))
  (Hv:findCls K (.ref LE) (.type "type") "__init__" = some (.val (.builtin "ValueError.__init__"))) :
  ∃fd:FuncData,(∀ (s:Shared) (v:Value),BindsTo s fd ⟨[v],[]⟩ [("_law_script",v)]) /\ ∀base:Heap,K.In base->base.Ns mainGlobals mg->aH l.prog w K mg base aK 11 fa fd ["_law_script"] (qW K):=by
 have z:∀x∈_,mg x=none:=Lu X G hz;obtain⟨hM,hLf,hWa,hRw,hNm,hCn,hRs,hIr,hIf,hPr,hKd,hAp,hCk,Fw,hFr,Ge,hKm,hCp,hWp,hWo,hP,hD,hN,hYm,hYn,hYp,hYf,hLw,hLr,hCs,hTr,hTy,hSo,hOr,hMr,hCd,hL,-⟩:=hd;obtain⟨fM,dM,FM,kM,bM,mM⟩:=cB X G hM ["rows"] fun|_,_,_,_,_,_,[_],_=>rfl;obtain⟨fLf,dLf,FLf,kLf,bLf,mLf⟩:=cB X G hLf ["rest"] fun|_,_,_,_,_,_,[_],_=>rfl;obtain⟨fWa,dWa,FWa,kWa,bWa,mWa⟩:=cB X G hWa ["rest","name"] fun|_,_,_,_,_,_,[_,_],_=>rfl;obtain⟨fRw,dRw,FRw,kRw,bRw,mRw⟩:=cB X G hRw ["rest"] fun|_,_,_,_,_,_,[_],_=>rfl;obtain⟨fNm,dNm,FNm,Bu,Bv,Bw⟩:=cB X G hNm ["thing"] fun|_,_,_,_,_,_,[_],_=>rfl;obtain⟨fCn,dCn,FCn,kCn,bCn,mCn⟩:=cB X G hCn ["thing"] fun|_,_,_,_,_,_,[_],_=>rfl;obtain⟨fRs,dRs,FRs,kRs,bRs,mRs⟩:=cB X G hRs ["names"] fun|_,_,_,_,_,_,[_],_=>rfl;obtain⟨fIr,dIr,FIr,Qq,Qr,Qs⟩:=cB X G hIr ["thing"] fun|_,_,_,_,_,_,[_],_=>rfl;obtain⟨fIf,dIf,FIf,kIf,bIf,mIf⟩:=cB X G hIf ["thing"] fun|_,_,_,_,_,_,[_],_=>rfl;obtain⟨fPr,dPr,FPr,kPr,bPr,mPr⟩:=cB X G hPr ["thing"] fun|_,_,_,_,_,_,[_],_=>rfl;obtain⟨fKd,dKd,FKd,Hw,Hx,Hy⟩:=cB X G hKd ["family","thing"] fun|_,_,_,_,_,_,[_,_],_=>rfl;obtain⟨fAp,dAp,FAp,Qt,Qu,Qv⟩:=cB X G hAp ["family","thing"] fun|_,_,_,_,_,_,[_,_],_=>rfl;obtain⟨fCk,dCk,FCk,kCk,bCk,mCk⟩:=cB X G hCk ["family","thing"] fun|_,_,_,_,_,_,[_,_],_=>rfl;obtain⟨fLo,dLo,FLo,Hz,HB,HC⟩:=cB X G Fw ["family"] fun|_,_,_,_,_,_,[_],_=>rfl;obtain⟨fFr,dFr,FFr,kFr,bFr,mFr⟩:=cB X G hFr ["lines","kind","parents"] fun|_,_,_,_,_,_,[_,_,_],_=>rfl;obtain⟨fLn,dLn,FLn,Qw,Qx,Qy⟩:=cB X G Ge ["family","kind"] fun|_,_,_,_,_,_,[_,_],_=>rfl;obtain⟨fKm,dKm,FKm,Qz,QA,QB⟩:=cB X G hKm ["family","kind","parents"] fun|_,_,_,_,_,_,[_,_,_],_=>rfl;obtain⟨fCp,dCp,FCp,kCp,bCp,mCp⟩:=cB X G hCp ["family","thing"] fun|_,_,_,_,_,_,[_,_],_=>rfl;obtain⟨fWp,dWp,FWp,kWp,bWp,mWp⟩:=cB X G hWp ["family","kind","parents"] fun|_,_,_,_,_,_,[_,_,_],_=>rfl;obtain⟨fWo,dWo,FWo,kWo,bWo,mWo⟩:=cB X G hWo ["family","kind"] fun|_,_,_,_,_,_,[_,_],_=>rfl;obtain⟨fP,dP,FP,kP,bP,mP⟩:=cB X G hP ["_law_script","_law_k"] fun|_,_,_,_,_,_,[_,_],_=>rfl;obtain⟨fD,dD,FD,kD,bD,mD⟩:=cB X G hD ["_law_pot_here","_law_many"] fun|_,_,_,_,_,_,[_,_],_=>rfl;obtain⟨fN,dN,FN,kN,bN,mN⟩:=cB X G hN ["_law_pot_here","_law_many"] fun|_,_,_,_,_,_,[_,_],_=>rfl;obtain⟨fYm,dYm,QC,kYm,QD,QE⟩:=cB X G hYm ["_law_rows"] fun|_,_,_,_,_,_,[_],_=>rfl;obtain⟨fYn,dYn,FYn,kYn,bYn,mYn⟩:=cB X G hYn ["_law_lines","_law_kind","_law_own"] fun|_,_,_,_,_,_,[_,_,_],_=>rfl;obtain⟨fYp,dYp,FYp,kYp,bYp,mYp⟩:=cB X G hYp ["_law_pot_here","_law_made"] fun|_,_,_,_,_,_,[_,_],_=>rfl;obtain⟨fYf,dYf,FYf,kYf,bYf,mYf⟩:=cB X G hYf ["_law_pot_here","_law_kinds"] fun|_,_,_,_,_,_,[_,_],_=>rfl;obtain⟨fLw,dLw,FLw,kLw,bLw,mLw⟩:=cB X G hLw ["_law_rows","_law_wish"] fun|_,_,_,_,_,_,[_,_],_=>rfl;obtain⟨fLr,dLr,FLr,kLr,bLr,mLr⟩:=cB X G hLr ["_law_rows","_law_ring"] fun|_,_,_,_,_,_,[_,_],_=>rfl;obtain⟨fCs,dCs,FCs,kCs,bCs,mCs⟩:=cB X G hCs ["_law_e"] fun|_,_,_,_,_,_,[_],_=>rfl;obtain⟨fTr,dTr,FTr,kTr,bTr,mTr⟩:=cB X G hTr ["_law_family_here","_law_kind","_law_own"] fun|_,_,_,_,_,_,[_,_,_],_=>rfl;obtain⟨fTy,dTy,FTy,kTy,bTy,mTy⟩:=cB X G hTy ["_law_family_here","_law_kind","_law_own"] fun|_,_,_,_,_,_,[_,_,_],_=>rfl;obtain⟨fSo,dSo,FSo,kSo,bSo,mSo⟩:=cB X G hSo ["_law_pot_here","_law_kinds"] fun|_,_,_,_,_,_,[_,_],_=>rfl;obtain⟨fOr,dOr,FOr,kOr,bOr,mOr⟩:=cB X G hOr ["_law_pot_here","_law_parents_here"] fun|_,_,_,_,_,_,[_,_],_=>rfl;obtain⟨fMr,dMr,FMr,kMr,bMr,mMr⟩:=cB X G hMr ["_law_pot_here","_law_family_here","_law_parents_here","_law_spare"] fun|_,_,_,_,_,_,[_,_,_,_],_=>rfl;obtain⟨fCd,dCd,FCd,kCd,bCd,mCd⟩:=cB X G hCd ["_law_family_here","_law_parents_here","_law_names_here"] fun|_,_,_,_,_,_,[_,_,_],_=>rfl;obtain⟨fL,dL,FL,aL⟩:=hL;cases iB.symm.trans (mg_of X G aL)
 have nz:∀ {x:Str},x∈_->mg x=none:=fun {x} m=>z x m;have Bl:dJ mg:=⟨nz (by decide),nz (by decide),nz (by decide),nz (by decide),nz (by decide),nz (by decide),nz (by decide),nz (by decide),nz (by decide),nz (by decide)⟩
 have B2:gr mg:=⟨nz (by decide),nz (by decide),nz (by decide),nz (by decide)⟩
 have n1:=jI.mp jZ;have n2:=jI.mp n1.2;have n3:=jI.mp n2.2;have bs:wt K LE:=⟨(jI.mp Bt).1,cT.mp (jI.mp Bt).2,Hv⟩;have FI:=LP (st:=pC) Hq Hr Hs;have bI:=FI.binds (ps:= ["self","kind","ring"]) fun|_,_,_,_,_,_,[_,_,_],_=>rfl;have xc:=WR Ht;have mC:=De X G 12 hJ rfl rfl;have T:DP K mg LE C fI _:=⟨mC,Bs,Ho,n3.1,FI,bs,mg_of X G Br,bI,xc,cT.mp n1.1,cT.mp n2.1⟩;have HE:mg "set" = none:=nz (by decide)
 have QF:mg "zip" = none:=nz (by decide)
 have u1:=jI.mp Hu;have QG:∀i,i=4\/i=12->(∀j,j < 16->kitOne K (.ref (r9 [g0,g1,g2,g3,g4,g5,g6,g7,g8,g9,vi,vj,C,vk,vm,vn] i)) (.ref (r9 [g0,g1,g2,g3,g4,g5,g6,g7,g8,g9,vi,vj,C,vk,vm,vn] j))=some (decide (i=j)))/\kitOne K (.ref (r9 [g0,g1,g2,g3,g4,g5,g6,g7,g8,g9,vi,vj,C,vk,vm,vn] i)) (.type "ValueError")=some true:=fun i hi=>by
  have h:=oQ.mp gX i (by rcases hi with rfl|rfl <;> decide)
  obtain⟨h1,h2⟩:=jI.mp h;exact⟨fun j hj=>cT.mp (oQ.mp h1 j (nC.mpr hj)),cT.mp h2⟩
 have TC:uo K mg (r9 [g0,g1,g2,g3,g4,g5,g6,g7,g8,g9,vi,vj,C,vk,vm,vn]):=by
  refine⟨fun p hp=>?_,nz (by decide),fun i j hi hj=>(QG i hi).1 j hj,fun i hi=>(QG i hi).2⟩
  unfold eM at hp;simp only[a9,lZ,md]at hp;refine De X G p.1 hJ ?_ ?_ <;> rcases hp with rfl|rfl|rfl|rfl|rfl|rfl|rfl|rfl|rfl|rfl|rfl|rfl|rfl|rfl|rfl|rfl <;> rfl
 obtain⟨_,_,_,_,_,_,_,_,_,rfl,_,_⟩:=FL.ex;exact⟨_,fun s v=>.of_eq rfl,fun base _ _ =>
  let me:=cT.mp n3.2
  let HF:=CT FD
  let Bx:=W0 FNm Bl B2
  let QH:=Y3 FIr Bl B2 HE Bx Bu Bv Bw
  let HG:=W2 FKd B2 Bx Bu Bv Bw
  let QI:=W4 FAp Bl (mg_of X G DT) HG Hw Hx Hy QH Qq Qr Qs
  let GCk:=V7 FCk HG Hw Hx Hy
  let GCp:=Y7 FCp QI Qt Qu Qv
  let GM:=U6 FM Bl T FWa bWa mWa FLf bLf mLf FRw bRw mRw
  let GFr:=YX FFr Bl T me GM kM bM mM
  let HH:=V5 FLo Bl GFr kFr bFr mFr
  let QJ:=Vc FLn GCk kCk bCk mCk HH Hz HB HC
  let GWo:=Y9 FWo Bl
  let GWp:=Za FWp Bl B2 GWo kWo bWo mWo HH Hz HB HC
  let QK:=Zb FKm (X7 FCn Bx Bu Bv Bw) kCn bCn mCn HG Hw Hx Hy GCp kCp bCp mCp GWp kWp bWp mWp
  let GPr:=W8 FPr Bl B2 Bx Bu Bv Bw QH Qq Qr Qs
  let GIf:=Yb FIf Bl B2 mC Bs me GPr kPr bPr mPr (W6 FRs B2 HE) kRs bRs mRs QI Qt Qu Qv HH Hz HB HC
  let GYm:=Mo QC Bl
  let GYf:=X3 FYf Bl B2 (X1 FYp Bl FD bD mD) kYp bYp mYp (Y1 FYn Bl QC QD QE) kYn bYn mYn
  let GCs:=Zf FCs B2 QF TC
  let GTr:=Zj FTr Bl B2 TC (mg_of X G Br) ⟨_,u1.2⟩ (cT.mp u1.1) xc (cT.mp n1.1) (cT.mp n2.1) GCs kCs bCs mCs QK Qz QA QB
  let GLr:=Yf FLr Bl B2 HE (Zl FLw Bl B2 (nz (by decide)) (nz (by decide))) kLw bLw mLw
  let GTy:=Zn FTy Bl B2 QJ Qw Qx Qy GTr kTr bTr mTr GYm kYm QD QE GLr kLr bLr mLr
  let GMr:=Zr FMr Bl B2 (Zp FOr Bl B2 HF kD bD mD) kOr bOr mOr GTy kTy bTy mTy (Zh FSo Bl HF kD bD mD) kSo bSo mSo QK Qz QA QB GIf kIf bIf mIf
  let GCd:=Zv FCd Bl B2 QF QJ Qw Qx Qy
  Yh FL Bl B2 (XX FP Bl) kP bP mP HF kD bD mD (V1 FN Bl FD bD mD) kN bN mN GYf kYf bYf mYf GMr kMr bMr mMr GCd kCd bCd mCd⟩
theorem walk {l:OpenLaw}{q:Program}{loose:List Str}{XP:(Str->Option Value)->Heap->Prop}{YP:World->Heap->Prop}{d:DefRec}{K:Params->Frag} (hn:l.most=some 63) (xE:d.params.defaults = [])
  (hY:∀ (w:World) (h:Heap),YP w h->(K w.params).In h)
  (F:∀ (w:World) (mg:Str->Option Value) (fa:Addr) (h:Heap),(K w.params).In h->h.Ns mainGlobals mg->mg d.name=some (.ref fa) ->
   ∃fd:FuncData,(∀ (s:Shared) (u:Value),BindsTo s fd ⟨[u],[]⟩ [("_law_script",u)]) /\ ∀base:Heap,(K w.params).In base->base.Ns mainGlobals mg->aH l.prog w (K w.params) mg base aK 11 fa fd ["_law_script"] (qW (K w.params))) :
  WalkO q loose XP YP l.row.toRowW d [] (fun f vs=>PySem.call f vs):=
 L2.Wn (n:=63) (k:=11) (x:= "_law_script") (CX:=fun _=>aK) (sp:=fun w=>qW (K w.params)) hn (by decide) xE ⟨rfl,by decide,by decide,rfl⟩ hY F (fun _ _ a ns hl _ hS=>by unfold qW;exact⟨a,ns,rfl,hS,hl,fun _=>rfl⟩) fun _ _ _ _ _ z=>z
end j6
namespace PySem.W.Fast
def tw12595539542439066075:=0
def tw1044265989733959707:=0
def tw4748958108515455181:=0
def tw16063480156738140801:=0
def tw1605648711905365713:=0
def tw8714443578725501713:=0
def tw4816704510314306316:=0
def tw6265945894993256171:=0
def tw11517528604298309906:=0
def tw10025821448824761088:=0
def tw10788348628079329263:=0
def tw12898017843234580530:=0
def tw11856610403527414272:=0
def tw14138337460464468191:=0
def tw43561626852512251:=0
def tw8978046710898169692:=0
def tw17936593495022268748:=0
def tw18433218393463986567:=0
def tw10004745150697564033:=0
def tw2263380267334011878:=0
def tw17743812047236553721:=0
def tw3224581815977563676:=0
def tw1545480370747730873:=0
def tw13161926744177216759:=0
def tw6790172790166322048:=0
def tw13277134766397286111:=0
def tw16981054829935756573:=0
def tw5154900284940263404:=0
def tw17729873966401687710:=0
def tw10593206452250562914:=0
def tw10951980355957120654:=0
def tw17821581941351686872:=0
def tw4457953953856008838:=0
def tw3701780982654156369:=0
def tw16666774776273847945:=0
def tw5936974769388736836:=0
def tw13497367939979962000:=0
def tw1325896808873737916:=0
def tw18298486256802791880:=0
def tw13298448097812080810:=0
def tw15841924413632525111:=0
def tw6498359794378850207:=0
def tw334893340433851826:=0
def tw16099705439989383390:=0
def tw9835687072784637046:=0
def tw6728033184241948139:=0
def tw1332774310065648249:=0
def tw8507382006577533175:=0
def tw5506451496690903977:=0
def tw14138194619778829995:=0
def tw15643805539237303266:=0
def tw12559264740161117904:=0
def tw9962354525514393858:=0
def tw15682390575353794395:=0
def tw17607786674985360449:=0
def tw9521952144843924428:=0
def tw13461513608925870295:=0
def tw14418732286500010831:=0
def tw5977259820926645634:=0
def tw11057059687633427840:=0
def tw4349925080862206703:=0
def tw5259745218922446856:=0
def tw9020791455825113630:=0
def tw2656343179505205837:=0
def tw9125346075116574906:=0
def tw15207880581326246973:=0
def tw3281178508080655591:=0
def tw10846377421492117820:=0
def tw1390356702515552986:=0
def tw884213748525078136:=0
def tw4330775383707770984:=0
def tw8869045291059489620:=0
def tw9249693574553629655:=0
def tw6644359019860875284:=0
def tw13867281740611716530:=0
def tw2675322030852850013:=0
def tw7908140185231087153:=0
def tw7795630601777662685:=0
def tw8002472736862439272:=0
def tw9227575226206439905:=0
def tw16347464347545806111:=0
def tw7657812063210446085:=0
def tw7483866034927080189:=0
def tw10571672899210572849:=0
def tw13116704960987788032:=0
def tw4731611942198360906:=0
def tw8504486264308967361:=0
def tw1178109483978534215:=0
def tw4027856514048585336:=0
def tw13575643473522020410:=0
def tw14204683840208034961:=0
def tw618114465934917275:=0
def tw9859741253360635392:=0
def tw6050519881531880950:=0
def tw10848955099123045709:=0
def tw7192655819316321679:=0
def tw10939605889787703623:=0
def tw15142744942410160102:=0
def tw5270895142682879943:=0
def tw7134419385684142803:=0
def tw16612872717515118191:=0
def tw6424133433064770001:=0
def tw15973498144935000455:=0
def tw2817366508018007781:=0
def tw16875772288829077655:=0
def tw3627857106519969358:=0
def tw12383627795360037191:=0
def tw14531345612124405925:=0
def tw16297949952133501118:=0
def tw16786861710495267216:=0
def tw9566800059022914689:=0
def tw5393494011428446449:=0
def tw16097123514920524785:=0
def tw10701811639703756741:=0
def tw13943483649054397177:=0
def tw7249455594200845851:=0
def tw18025592280207804218:=0
def tw8575873015625561918:=0
def tw4241584377098848623:=0
def tw10998383400549712928:=0
def tw4138361208449991330:=0
def tw1125763302432940694:=0
def tw16285886308775745213:=0
def tw5148781034642662388:=0
def tw10371480866924320796:=0
def tw9595882083991029813:=0
def tw11313430838757291680:=0
def tw2762802750139009252:=0
def tw10631457556272140248:=0
def tw18240228495415779368:=0
def tw11721162993827280632:=0
def tw836260170769112680:=0
def tw5753450906561662212:=0
def tw13926050779823860944:=0
def tw6771590336216401198:=0
def tw14998159064725482584:=0
def tw1487119211662962666:=0
def tw11903621010581847951:=0
def tw760420462981792706:=0
def tw7233442890836163748:=0
def tw8330883211918897106:=0
def tw1275074781405781808:=0
def tw16530794040262503166:=0
def tw5667161259947180246:=0
def tw10969552477642734820:=0
def tw10442728089988456837:=0
def tw14189264669973046902:=0
def tw14091889299516867804:=0
def tw1040892697986885519:=0
def tw14027034600045423834:=0
def tw17836691809024806744:=0
def tw5736964293856030482:=0
def tw4208180694741488805:=0
def tw15740715699524337318:=0
def tw13949275665985270655:=0
def tw15267365105049988609:=0
def tw6210152357459306846:=0
def tw14848430574734520281:=0
def tw16797216721388679992:=0
def tw7692083438510431752:=0
def tw10986971305169791987:=0
def tw6362152637111268009:=0
def tw7432650604826882729:=0
def tw16683515598826216836:=0
def tw9354968281893207435:=0
def tw12873334109185606573:=0
def tw18310467909290787051:=0
def tw6543098315687765920:=0
def tw2964892068654444250:=0
def tw16304183270040354858:=0
def tw16054345696297729372:=0
def tw3019207187435983242:=0
def tw9354148304208025742:=0
def tw15578531970800363788:=0
def tw845932716496404159:=0
def tw13012324809562540038:=0
def tw408749993080246363:=0
def tw10482499781696311975:=0
def tw11665393969152474221:=0
def tw15527986201549449484:=0
def tw16324610895802258506:=0
def tw17706723214292570133:=0
def tw15207213856921497335:=0
def tw6993707788057496528:=0
def tw8932343524108136521:=0
def tw12658636489070791880:=0
def tw15097665865000753647:=0
def tw10231158434412134268:=0
def tw16042204022871640667:=0
def tw10688978170939968252:=0
def tw2299776824596670848:=0
def tw16674927738352701651:=0
def tw7141666086017671674:=0
def tw7331142574138982391:=0
def tw1205817233859910757:=0
def tw5347004388888913923:=0
def tw9922369671690274675:=0
def tw5829000287351294942:=0
def tw15604946418220784087:=0
def tw11991237787062489401:=0
def tw15774290398347803557:=0
def tw4535401053435176310:=0
def tw768977724734549634:=0
def tw16286820042701755713:=0
def tw10224111448841212949:=0
def tw9625626684278680168:=0
def tw3562623747933376147:=0
def tw6413015890232336857:=0
def tw6811483541304847542:=0
def tw1325988304438245287:=0
def tw9810060943746603420:=0
def tw675163162758275542:=0
def tw6936121455668760164:=0
def tw715011438846499707:=0
def tw18056007452089098194:=0
def tw15051787497124676998:=0
def tw7379612143664940476:=0
def tw2681808235554019445:=0
def tw17917559303084265251:=0
def tw11730395257983082737:=0
def tw17528019331104613646:=0
def tw11875965506341722729:=0
def tw6752589305328715471:=0
def tw17048126656862295365:=0
def tw13452669388118802495:=0
def tw3543877263005583221:=0
def tw16933774021367313755:=0
def tw16760592458024278354:=0
def tw15841311670176556658:=0
def tw13039997138643292495:=0
def tw11770086980076324300:=0
def tw8694014366412940385:=0
def tw3738977566456456226:=0
def tw8223025245695187559:=0
def tw5061759852761193742:=0
def tw14166743425503301360:=0
def tw5453613330477007518:=0
def tw16135674997894733434:=0
def tw506561170578730998:=0
def tw14747575787509255951:=0
def tw3297261486292716162:=0
def tw17005183630137997590:=0
def tw6230309808597913591:=0
def tw9903703280901436302:=0
def tw9329964642169054610:=0
def tw13902280697112268352:=0
def tw10594589318840158254:=0
def tw17281884088481229203:=0
def tw11162412858994360305:=0
def tw12112105032646685606:=0
def tw13707028731249776159:=0
def tw16998371773210713922:=0
def tw3750031843465714213:=0
def tw16185021309835834534:=0
def tw11253339899318713300:=0
def tw11585747328847607292:=0
def tw15257167194395533826:=0
def tw3596699923644849346:=0
def tw5341952317095384052:=0
def tw5379781119432397047:=0
def tw14059831337850333508:=0
def tw4218820872392484240:=0
def tw8576339665982775620:=0
def tw13292495174231533927:=0
def tw9518089052832578147:=0
def tw2416677642756240610:=0
def tw4473663470797509979:=0
def tw15969592195316356675:=0
def tw5650216460775311768:=0
def tw11203021937880360865:=0
end PySem.W.Fast
open PySem PySem.W PyProof.Rows
set_option maxRecDepth 100000 in
set_option maxHeartbeats 0 in
theorem PySem.Challenge.cw_parentlines_k25_whole_kinds_made_in_any_holds : PySem.Challenge.rw_parentlines_k25_whole_kinds_made_in_any.Holds := by
 w_on;o_law;k_head;(case hw=>w_witness2)
 k_fill
 refine j6.walk (l:=PySem.Challenge.rw_parentlines_k25_whole_kinds_made_in_any) rfl rfl (fun w h Y=>PySem.W.kIn_of Y) ?F
 case F =>
  intro w mg fa h KX G rJ;refine' j6.all_mk KX G rJ ?d ?z ?hJ ?Br ?Qp ?Ho ?Bs ?Hq ?Hr ?Hs ?Ht ?gX ?Hu ?jZ ?Bt ?DT ?Hv
  (case d=>(repeat (refine' L2.YT ?a ?l ?c ?k ?_;(case a=>k_is);(case l=>k_is);(case c=>k_is);(case k=>k_is)));exact trivial)
  (case z=>(repeat' first|exact trivial|refine And.intro ?_ ?_) <;> k_is)
  (case hJ=>(repeat' first|exact trivial|refine And.intro ?_ ?_) <;> k_is)
  (case Br=>k_is)
  (case Qp=>k_is)
  (case Ho=>k_is)
  (case Hq=>k_is)
  (case Hr=>k_is)
  (case Hs=>k_is)
  (case DT=>k_is)
  (case Hv=>k_is)
  (case Bs=>kernel_rfl)
  (case Ht=>kernel_rfl)
  (case gX=>kernel_rfl)
  (case Hu=>kernel_rfl)
  (case jZ=>kernel_rfl)
  (case Bt=>kernel_rfl)
