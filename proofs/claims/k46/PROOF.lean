import PyProof.Rows.All
import Wide.All
import OpenK.AllK
import Wide.FinOn
import Lean
import PyProof.EqAt
import PyProof.EqKinds
import PyProof.TupleCall
import PyProof.ReprRoads
import PyProof.ReprBulk
import PyProof.EnumMake
import PyProof.EnumFor
import KE.KRevSl
import KE.KDictList
import PyProof.ZipIter
import PyProof.AttrMissHeap
import KE.KDictOf
import KE.KItemsList
import PyProof.Rows.ZipGen
import PyProof.CallFns
import PyProof.StrWalks
import PyProof.FString5
import KE.KSortTup
import PyProof.SetRoads
import PyProof.SetNew
import PyProof.Rows.SetFrom
import PyProof.WalksMore
import PyProof.ForAny
import PyProof.DictWalks
import PyProof.MeetsDict
import KE.KEqDict
import PyProof.AutoSeq1
import PyProof.NsDelKeeps
import PyProof.ListMulRoad
import PyProof.FactsAll.list
import PyProof.FactsAll.list_2
import PyProof.DictItemsLoops
import KE.KPairComp
import PySem.Challenge.RW_parentlines_k46_whole_onward_meets_each
set_option Elab.async false
set_option linter.all false
set_option maxRecDepth 100000
set_option maxHeartbeats 4000000
def aa:=@PySem.wpAny_bind
def ai:=@PySem.wpAny_pure
def aj:=@if_neg
def ax:=@if_pos
def aJ:=@List.length_map
def aN:=@Ne.symm
def aP:=@Nat.le_refl
def aT:=@PySem.sizeLine_eq
def aW:=@List.mem_cons_self
def a8:=@PySem.Heap.get?_push_of_some
def a9:=@PySem.Heap.lt_size
def bf:=@Nat.zero_le
def bj:=@List.mem_cons
def bq:=@List.mem_cons_of_mem
def br:=@List.mem_map
def bx:=@Nat.ne_of_lt
def bB:=@List.map_append
def b4:=@List.getElem?_eq_getElem
def b8:=@List.size_toArray
def cp:=@PySem.Heap.get?_push_size
def cu:=@List.getElem?_eq_some_iff
def cw:=@Bool.false_ne_true
def dz:=@List.length_append
def dH:=@List.mem_singleton
def d7:=@List.length_cons
def ee:=@List.mem_append
def eI:=@PySem.wpAny_holding
def eJ:=@List.length_take
def eK:=@List.take_length
def eU:=@congrArg
def eV:=@beq_iff_eq
def eX:=@List.take_succ
def fw:=@Nat.le_trans
def fH:=@List.mem_append_right
def fX:=@List.map_cons
def fY:=@decide_eq_true
def gA:=@Option.some.inj
def gE:=@List.lookup_cons
def gZ:=@PySem.Paired.length
def g7:=@Nat.lt_of_lt_of_le
def g8:=@List.nodup_cons
def g9:=@List.nodup_append
def ir:=@if_false
def iP:=@PySem.wpAny_newObj_type
def iQ:=@of_decide_eq_true
def iR:=@PySem.PassesOwn.never
def ji:=@decide_eq_false
def jj:=@Array.length_toList
def jk:=@List.getElem?_map
def jl:=@List.nodup_nil
def jm:=@List.not_mem_nil
def jn:=@or_false
def jM:=@List.append_nil
def jN:=@Nat.le_succ
def jO:=@List.getD_eq_getElem?_getD
def kz:=@List.mem_filter
def kA:=@if_true
def kB:=@Option.map_eq_some_iff
def kX:=@List.mem_of_getElem?
def kY:=@List.getElem_mem
def kZ:=@PySem.wpAny_setState_of
def k9:=@PySem.F.plainAttrs_list
def lZ:=@PySem.wpAny_mono
def l0:=@PySem.Heap.size_push
def md:=@PySem.wpAny_call_entry
def mf:=@PySem.codeAny_builtin
def ng:=@beq_eq_false_iff_ne
def nj:=@Sum.inr.inj
def nu:=@List.mem_append_left
def nB:=@PySem.wpAny_truthy_bool
def nC:=@PySem.wpAny_standAt
def nD:=@PySem.W.kia_one
def nE:=@Bool.and_eq_true
def nF:=@PySem.Around.under_plainId
def nG:=@Array.getD_eq_getD_getElem?
def nH:=@PySem.wpAny_askSetting
def nI:=@PySem.wpAny_setField_rec
def nJ:=@List.length_filter_le
def nK:=@List.filter_append
def oT:=@List.mem_range
def oU:=@PySem.wpAny_rule
def oV:=@Nat.ne_of_gt
def oW:=@PySem.mem_of_lookup
def oX:=@Int.toNat_natCast
def oY:=@PySem.wpAny_typeOf
def oZ:=@Bool.false_eq_true
def o3:=@PySem.plainId_quiet
def qF:=@Nat.lt_irrefl
def qG:=@Nat.lt_succ_self
def qH:=@PySem.wpAny_call
def qI:=@PySem.Heap.get?_update_other
def qJ:=@PySem.Paired.snoc
def qK:=@Nat.lt_succ_of_lt
def qL:=@List.Perm.refl
def sN:=@PySem.codeAny_mono
def sO:=@PySem.wpAny_field
def sP:=@List.any_cons
def sQ:=@PySem.call_meets
def sR:=@List.length_singleton
def sS:=@List.length_nil
def sT:=@PySem.F.called_set
def vk:=@PySem.wpAny_passesOwn
def vm:=@Bool.eq_iff_iff
def vn:=@List.length_drop
def vo:=@Nat.lt_trans
def vp:=@List.drop_eq_getElem_cons
def vq:=@List.eq_nil_of_length_eq_zero
def vt:=@Array.getElem?_eq_getElem
def vw:=@List.map_map
def vx:=@PySem.F.slot_list_append
def vy:=@PySem.F.type_list_append
def vz:=@PySem.boot_len
def y9:=@List.mem_filterMap
def za:=@PySem.wpAny_execs_nil
def zb:=@PySem.wpAny_load
def zd:=@PySem.wpAny_pyIter_list
def ze:=@PySem.wpAny_Call_Name_kw
def zf:=@PyProof.Rows.slot_tuple_getitem
def zg:=@PySem.Heap.get?_update_self
def zh:=@Array.getElem?_toList
def zi:=@Bool.and_eq_true_iff
def zj:=@List.all_eq_true
def zk:=@List.any_eq_true
def zl:=@List.find?_cons
def zm:=@Nat.not_lt_zero
def zo:=@List.filter_cons_of_pos
def C6:=@Option.map_some
def C7:=@Nat.le_of_lt
def C8:=@PySem.Heap.get?_none_of_le
def C9:=@PySem.wpAny_callSpecial?_slot
def Dc:=@PySem.wpAny_loadPart_at
def Dd:=@PySem.W.any_some
def De:=@PySem.F.store_object
def Df:=@PySem.wpAny_attempt
def Dg:=@Array.size_append
def Dh:=@PySem.Heap.SameBut.update
def Di:=@Nat.le_succ_of_le
def Dj:=@Array.getElem?_eq_none
def Dk:=@List.take_of_length_le
def Dl:=@PySem.F.slot_dict_itemiterator_next
def Dm:=@List.filter_cons
def Dn:=@List.filter_cons_of_neg
def Dp:=@List.mem_of_mem_drop
def Dq:=@List.mem_flatMap
def Dr:=@List.flatMap_append
def Ds:=@List.head?_map
def KS:=@List.any_eq_false
def KU:=@PySem.wpAny_loadPart
def KW:=@List.take_sublist
def KY:=@PySem.seqIndex_of
def KZ:=@List.append_assoc
def K0:=@PySem.wpAny_noRaise
def K1:=@PySem.codeAny_of_tree
def K3:=@PySem.codeAny_call_builtin
def K4:=@PySem.W.looks_mroIn
def K5:=@Option.bind_some
def K7:=@PySem.wpAny_getItem_str_slice
def K8:=@PySem.post_val_or_str
def K9:=@Array.toList_inj
def K':=@Array.getElem?_eq_some_iff
def La:=@List.any_map
def Lb:=@PySem.F.plain_any_loop
def Lc:=@List.getElem_of_mem
def Ld:=@List.drop_zero
def Le:=@Option.isSome_map
def Lf:=@PySem.tupleKind_room_in1
def Lg:=@PySem.wpAny_newList
def Lh:=@PySem.fits_of_scanBound
def Li:=@PySem.wpAny_throw
def Lj:=@Nat.lt_of_succ_lt_succ
def Lk:=@PySem.wpAny_pyIter_slot
def Ll:=@List.getElem?_eq_none
def Lm:=@PySem.F.plain_list_iadd
def Ln:=@List.getElem?_inj
def Lo:=@PySem.Heap.UpToSlots.trans
def Lp:=@PySem.wpAny_typeNameOfWhole_itemiter
def Lq:=@PySem.wpAny_typeNameOf_itemiter
def Lr:=@List.sum_cons
def Ls:=@Int.emod_nonneg
def Lu:=@Int.emod_lt_of_pos
def Lv:=@Int.eq_ofNat_of_zero_le
def Lw:=@List.idxOf_lt_length_iff
def U6:=@PySem.Value.isStrOf_shape
def U7:=@PySem.wpAny_eqBool_str
def U8:=@List.filterMap_cons
def U9:=@List.getElem?_set_self
def U':=@List.getElem?_set_ne
def Va:=@PyProof.Rows.assignInOrder_cons
def Vb:=@PySem.wpAny_pyNext_list_item
def Vc:=@PySem.wpAny_pyNext_list_end
def Vd:=@PyProof.Rows.callWith_type1
def Ve:=@PySem.W.plainGet_of
def Vf:=@PySem.W.callWith_K
def Vg:=@List.of_mem_zip
def Vh:=@Option.isSome_iff_exists
def Vj:=@PySem.noFill_tuple_add
def Vk:=@PySem.seq_tuple_add
def Vl:=@PySem.F.slot_tuple_add
def Vm:=@PySem.F.entry_tuple_add
def Vn:=@PySem.F.args_tuple_add_2
def Vo:=@List.length_dropLast
def Vp:=@beq_self_eq_true
def Vq:=@List.lookup_append
def Vr:=@PySem.wpAny_comprehension_free
def Vs:=@PySem.Code.quiet_builtin
def Vt:=@List.length_range
def Vu:=@List.length_erase_of_mem
def Vv:=@List.length_pos_of_mem
def Vw:=@List.mem_erase_of_ne
def Vx:=@Bool.false_or
def Vy:=@Nat.not_lt
def Vz:=@PySem.wpAny_specialOf
def VA:=@PySem.typeLookup_type
def VB:=@PySem.builtinLookup_eq_fast
def VC:=@PySem.F.slot_tuple_getattribute
def VD:=@List.take_append_drop
def VE:=@List.ext_getElem
def VG:=@PyProof.Rows.F.plain_set_update_loop
def VH:=@PySem.wpAny_runValue
def VI:=@PySem.isSubtype_type
def VJ:=@PySem.wpAny_fieldsOf
def VL:=@PySem.wpAny_isInstance
def VM:=@PySem.wpAny_ite_split
def VN:=@PySem.wpAny_updateSeq
def VO:=@List.map_congr_left
def VP:=@PySem.ReadAtMost.cons
def VQ:=@Nat.le_max_left
def VR:=@Nat.le_max_right
def VS:=@PySem.AutoSeq1.wpAny_loadPart'
def VT:=@PySem.F.slot_list_mul
def VU:=@PySem.wpAny_dictEntries
def VV:=@PySem.wpAny_dictEpoch
def VW:=@PySem.wpAny_isOneOf_itemiter
def VX:=@List.drop_length
def VY:=@Option.map_map
def VZ:=@Int.lt_of_lt_of_le
def V0:=@List.map_drop
def V1:=@PySem.F.slot_list_pop
def V2:=@PySem.F.type_list_pop
def V3:=@List.mem_of_mem_take
def V4:=@List.getElem_idxOf
def V5:=@decide_eq_decide
def V6:=@List.drop_eq_nil_of_le
def ani:=@PySem.Calls.Name_function_global
def ank:=@Int.fdiv_eq_ediv_of_nonneg
def anp:=@PySem.plainObj_wpAny_Assign_Attribute
def ans:=@PySem.W.methodCall_KW
def ant:=@PySem.W.cellsFrom_some
def anu:=@List.getElem?_append_right
def anv:=@List.length_replicate
def anw:=@PyProof.Rows.callWith_builtin1
def anB:=@PySem.evalArgs_none
def anC:=@List.eraseIdxIfInBounds_toArray
def anF:=@PySem.F.attrBase_ValueError
def anG:=@PySem.F.excBase_ValueError
def anH:=@List.drop_of_length_le
def anI:=@List.getElem_toArray
def anM:=@Array.mem_of_getElem?
def anN:=@Array.perm_iff_toList_perm
def anQ:=@List.length_eraseIdx
def anR:=@List.Perm.append_left
def anS:=@PySem.F.plain_extend_loop
def anT:=@PySem.F.entry_proto_collect
def anU:=@PySem.F.plain_proto_collect
def anV:=@PySem.F.entry_list_iadd
def anW:=@PySem.Calls.call_function_entry
def an0:=@PySem.F.slot_tuple_index
def an1:=@List.nodup_iff_pairwise_ne
def an6:=@PySem.F.slot_list_rmul
def an8:=@PySem.F.slot_int_rmul
def aoa:=@PySem.F.entry_dict_itemiterator_next
def aob:=@PySem.F.args_dict_itemiterator_next_1
def aoc:=@List.length_eq_one_iff
def aoe:=@List.cons_lt_cons_iff
def aof:=@List.countP_eq_length_filter
def aog:=@List.filter_eq_self
def aoh:=@List.length_pos_iff
def aoj:=@PySem.F.slot_list_index
def aok:=@PySem.F.type_list_index
def aol:=@PySem.SeqAt.eqv_refl
variable{us its:List PySem.Value}{x name qual cn nm ot:PySem.Str}{u cd doc pm aH ct oc vl vu acc dv:PySem.Value}{a b it D l p C f R sl q B fI d I fL fD fM fE tt fN fS M db:PySem.Addr}{o ox ol:PySem.Obj}{h h' g base h0:PySem.Heap}{items:Array PySem.Value}{P prog:PySem.Program}{w:PySem.World}{e c tg iter value elt:PySem.Expr}{L Ps:PySem.Str->List PySem.Str}{pins:List (PySem.Addr×PySem.Obj)}{s s' s1 s2:PySem.Shared}{t' i j n n1 ep U:Nat}{ch fp:List PySem.Addr}{N ps loose N' ks r line NU rn:List PySem.Str}{A:PySem.Around}{E Q:PySem.Value->PySem.Shared->Prop}{pos pos' apos tp:PySem.Pos}{K:PySem.W.Frag}{st:PySem.Stmt}{es ifs elts:List PySem.Expr}{body:List PySem.Stmt}{lo m z bg:Int}{dx an od:Option PySem.Addr}{mA mg:PySem.Str->Option PySem.Value}{expr:Bool}{kw:List (PySem.Str×PySem.Value)}{env:PySem.Env}{outer:List PySem.Env}{fd dL dI dE dN dS dR:PySem.FuncData}{kindOf:PySem.Str->Option PySem.NameKind}{sc scope:PySem.Scope}{iZ:Array (Option PySem.Value)}{T:String}{hi:Option Int}{XP:(PySem.Str->Option PySem.Value)->PySem.Heap->Prop}{YP:PySem.World->PySem.Heap->Prop}{ns:List Int}{cells:List (PySem.Str×PySem.Addr)}{b5:List (Option Nat)}{tk:PySem.Tok}{rest rows:List (List PySem.Str)}{av:PySem.Addr->Prop}{aQ:List (PySem.Str×List PySem.Str)}{dn:PySem.Str->Bool}
namespace L2
open PySem PySem.Spec PyProof.Rows
abbrev Key:=Sum Int Str
def ug:Key->Value->Bool
 |.inl k,v=>Value.isInt k v
 |.inr x,v=>Value.isStrOf x v
def ac6 (w:World):Key->Int
 |.inl k=>hashInt k
 |.inr x=>hashStr w x
theorem nL:∀ {k:Key}{v:Value},ug k v=true->(∃i t,k=Sum.inl i/\v=Value.int i t)\/(∃x t,k=Sum.inr x/\v=Value.str x t)
 |.inl i,v,h=>by
  obtain⟨t,e⟩:=Value.isInt_shape (k:=i) (v:=v) h;exact .inl ⟨i,t,rfl,e⟩
 |.inr x,v,h=>by
  obtain⟨t,e⟩:=U6 (x:=x) (v:=v) h;exact .inr ⟨x,t,rfl,e⟩
theorem XE (i:Int) (t:Tok):ug (.inl i) (.int i t)=true:=by simp[ug,Value.isInt]
theorem XF (x:Str) (t:Tok):ug (.inr x) (.str x t)=true:=by simp[ug,Value.isStrOf]
theorem aaL (a b:Int):decide ((Sum.inl a:Key)=Sum.inl b)=(a==b):=by
 by_cases e:a=b
 ·subst e;simp
 ·have h : ¬ (Sum.inl a:Key)=Sum.inl b:=fun q=>e (Sum.inl.inj q)
  rw[ji h];exact(ng.mpr e).symm
theorem aaM (a b:Str):decide ((Sum.inr a:Key)=Sum.inr b)=decide (a=b):=by
 by_cases e:a=b
 ·subst e;simp
 ·have h : ¬ (Sum.inr a:Key)=Sum.inr b:=fun q=>e (nj q)
  rw[ji h,ji e]
theorem aaN (a:Int) (b:Str):decide ((Sum.inl a:Key)=Sum.inr b)=false:=ji (fun q=>nomatch q)
theorem aaO (a:Str) (b:Int):decide ((Sum.inr a:Key)=Sum.inl b)=false:=ji (fun q=>nomatch q)
def dJ (prog:Program) (w:World):PySem.KeyKind prog w Key where
 is:=ug
 hash:=ac6 w
 inj:=fun v a b ha hb=>by
  rcases nL ha with⟨i,t,rfl,rfl⟩|⟨x,t,rfl,rfl⟩
  ·rcases nL hb with⟨j,u,rfl,e⟩|⟨y,u,rfl,e⟩
   ·injection e with e1 _;rw[e1]
   ·exact nomatch e
  ·rcases nL hb with⟨j,u,rfl,e⟩|⟨y,u,rfl,e⟩
   ·exact nomatch e
   ·injection e with e1 _;rw[e1]
 byValue:=fun k v h=>by
  rcases nL h with⟨i,t,rfl,rfl⟩|⟨x,t,rfl,rfl⟩ <;> rfl
 pyHash:=fun hv h=>by
  rcases nL hv with⟨i,t,rfl,rfl⟩|⟨x,t,rfl,rfl⟩
  ·exact wpAny_pyHash_int h
  ·exact wpAny_pyHash_str h
 eqBool:=fun hu hv h=>by
  rcases nL hu with⟨i,t,rfl,rfl⟩|⟨x,t,rfl,rfl⟩
  ·rcases nL hv with⟨j,u,rfl,rfl⟩|⟨y,u,rfl,rfl⟩
   ·rw[aaL]at h;exact wpAny_eqBool_int h
   ·rw[aaN]at h;exact SeqAt.EqAt.int_str i t y u _ _ _ _ h
  ·rcases nL hv with⟨j,u,rfl,rfl⟩|⟨y,u,rfl,rfl⟩
   ·rw[aaO]at h;exact SeqAt.EqAt.str_int x t j u _ _ _ _ h
   ·rw[aaM]at h;exact U7 h
 «strs» :=fun k x t v h=>by
  rcases nL h with⟨i,u,rfl,e⟩|⟨y,u,rfl,e⟩
  ·exact nomatch e
  ·injection e with e1 _
   subst e1;cases v <;> rfl
theorem WE (prog:Program) (w:World) (i:Int) (t:Tok):(dJ prog w).is (.inl i) (.int i t)=true:=XE i t
theorem WG (prog:Program) (w:World) (x:Str) (t:Tok):(dJ prog w).is (.inr x) (.str x t)=true:=XF x t
inductive V where
 |aF|bl (b:Bool)|int (i:Int)|str (x:Str)|i4 (b:Array UInt8)|i5 (b:UInt64)|ref (a:Addr)|ty (n:String)
 deriving DecidableEq
def RelV:V->Value->Prop
 |.aF,u=>u=Value.none
 |.bl b,u=>u=Value.bool b
 |.int i,u=>∃t,u=Value.int i t
 |.str x,u=>∃t,u=Value.str x t
 |.i4 b,u=>∃t,u=Value.bytes b t
 |.i5 b,u=>∃t,u=Value.float b t
 |.ref a,u=>u=Value.ref a
 |.ty n,u=>u=Value.type n
abbrev Vals:List V->List Value->Prop:=Paired RelV
theorem Vals.length {xs:List V} (r:Vals xs us):xs.length=us.length:=gZ r
theorem Vals.get:∀ {xs:List V}{us:List Value}{i:Nat}{x:V},Vals xs us->xs[i]? = some x -> ∃u,us[i]? = some u/\RelV x u
 |_,_,_,_,.nil,e=>by simp at e
 |_,_,0,_,.cons r _,e=>by simp at e;subst e;exact⟨_,rfl,r⟩
 |_,_,i+1,x,.cons _ t,e=>by
  obtain⟨u,h1,h2⟩:=Vals.get (i:=i) (x:=x) t (by simpa using e)
  exact⟨u,by simpa using h1,h2⟩
theorem Vals.set {x:V}{u:Value} (r:RelV x u):∀ {xs:List V}{us:List Value} (i:Nat),Vals xs us->Vals (xs.set i x) (us.set i u)
 |_,_,_,.nil=>.nil
 |_,_,0,.cons _ t=>.cons r t
 |_,_,i+1,.cons q t=>.cons q (Vals.set r i t)
theorem Vals.append:∀ {xs ys:List V}{us ws:List Value},Vals xs us->Vals ys ws->Vals (xs++ys) (us++ws)
 |_,_,_,_,.nil,s=>s
 |_,_,_,_,.cons r t,s=>.cons r (Vals.append t s)
theorem Vals.take:∀ {xs:List V}{us:List Value} (n:Nat),Vals xs us->Vals (xs.take n) (us.take n)
 |_,_,0,_=>.nil
 |_,_,_+1,.nil=>.nil
 |_,_,n+1,.cons r t=>.cons r (Vals.take n t)
theorem Vals.drop:∀ {xs:List V}{us:List Value} (n:Nat),Vals xs us->Vals (xs.drop n) (us.drop n)
 |_,_,0,r=>r
 |_,_,_+1,.nil=>.nil
 |_,_,n+1,.cons _ t=>Vals.drop n t
def gj:Option V->Option Value->Prop
 |some v,some u=>RelV v u
 |none,none=>True
 |_,_=>False
def KV {κ:Type}:List (κ×V)->List (κ×Value)->Prop:=Paired fun(p:κ×V) (q:κ×Value)=>p.1=q.1/\RelV p.2 q.2
def kV:Key->V
 |.inl i=>.int i
 |.inr x=>.str x
inductive HO where
 |lst (xs:List V)
 |tup (xs:List V)
 |dK (kvs:List (Key×V))|dT (kvs:List (List Key×V))
 |set (S:Int->Bool) (n:Nat)
 |ins (C dx:Addr) (fs:List (Str×V))
 |own (x:Addr)
 |xd (fs:List (Str×V))
 |met (f x:Addr)
 |xA (lo hi:Int)
 |cq (o:Obj) (u:HO)
 |oj (ps:Array Value)
 |ext (φ:Heap->Prop)
abbrev Hp:=Addr->Option HO
def upd (H:Hp) (a:Addr) (o:HO):Hp:=fun b=>if b=a then some o else H b
theorem af {H:Hp}{o:HO}:upd H a o a=some o:=by unfold upd;rw[ax rfl]
theorem ag {H:Hp}{o:HO} (h:b≠a):upd H a o b=H b:=by unfold upd;rw[aj h]
theorem iw {H:Hp}{o u:HO}:upd (upd H a o) a u=upd H a u:=by
 funext b;unfold upd;split <;> rfl
theorem ao {H:Hp}{o u:HO} (h:H a=some o) (h':H b=some u) (d:o≠u):a≠b:=by
 intro e;subst e;rw[h]at h';exact d (gA h')
theorem aq {H:Hp}{o:HO} (h:H a=some o) (h':H b=none):a≠b:=by
 intro e;subst e;rw[h]at h';cases h'
def nV (h:Heap) (a:Addr) (items:Array Value):Prop:= ∃o,h.get? a=some o/\o.cls = .type "tuple" /\ ∃n,o.data = .seq items n/\o.dict=none
theorem nV.is (x:nV h a items):IsTup h a items:=let ⟨o,e,c,n,d,_⟩:=x;⟨o,e,c,n,d⟩
theorem nV.new (h:Heap) (items:Array Value):nV (h.push { cls:= .type "tuple",data:= .seq items }) h.objs.size items:=⟨_,cp _ rfl,rfl,_,rfl,rfl⟩
section
variable (P:Program) (w:World)
def bu (H:Hp) (h:Heap) (a:Addr):HO->Prop
 |.lst xs=>xs.length<=sizeLine /\ ∃ (its:List Value) (n:Nat),Vals xs its/\h.get? a=some { cls:= .type "list",data:= .seq its.toArray n }
 |.tup xs=>xs.length<=sizeLine /\ ∃its:List Value,Vals xs its/\nV h a its.toArray
 |.dK kvs=>kvs.length<=sizeLine/\(a==sysModules)=false /\ ∃vs,KV kvs vs/\h.DictOf (dJ P w) a vs
 |.dT kvs=>kvs.length<=sizeLine/\(a==sysModules)=false /\ ∃xs:List (List Key×Addr×Value),
   Paired (fun(p:List Key×V) (q:List Key×Addr×Value)=>p.1=q.1/\H q.2.1=some (.tup (p.1.map kV))/\RelV p.2 q.2.2) kvs xs /\
   ∃o es ep,h.get? a=some o/\o.ExactDict/\o.data = .dict es ep/\es.toList=xs.map (entryOfKey (tupleKind (dJ P w)))/\(xs.map (·.1)).Nodup
 |.set S n=>h.SetOf (intKind P w) a S n
 |.ins C dx fs=>H dx=some (.own a)/\fs.length<=1000/\dx≠a/\h.get? a=some (PySem.W.instObj C dx) /\
   ∃mA,h.Ns1 dx mA/\(∀f,gj (fs.lookup f) (mA f))/\PySem.Within mA (fs.map (·.1))
 |.own _=>∃o,h.get? a=some o
 |.xd fs=>∃mA,h.Ns1 a mA /\ ∀f,gj (fs.lookup f) (mA f)
 |.xA lo hi=>∃t u v,h.get? a=some { cls:= .type "range",data:= .fields #[.int lo t,.int hi u,.int 1 v] }
 |.cq o u=>h.get? a=some o/\bu H h a u
 |.oj ps=>h.get? a=some { cls:= .none,data:= .fields ps }
 |.met f x=>h.get? a=some (PySem.W.methodObj (.ref f) (.ref x))
 |.ext φ=>φ h/\(∃o,h.get? a=some o) /\ ∀h1 h2:Heap,φ h1->(∀o,h1.get? a=some o->h2.get? a=some o)->φ h2
def cR (H:Hp) (h:Heap):Prop:= ∀a o,H a=some o->bu P w H h a o
end
section
variable{H H':Hp}{o:HO}
theorem bu.lt (x:bu P w H h a o):a < h.objs.size:=by
 cases o with
 |lst xs=>obtain⟨_,_,_,_,e⟩:=x;exact a9 e
 |tup xs=>obtain⟨_,_,_,p⟩:=x;exact p.is.lt
 |dK kvs=>obtain⟨_,_,_,_,o,_,_,e,_⟩:=x;exact a9 e
 |dT kvs=>obtain⟨_,_,_,_,o,_,_,e,_⟩:=x;exact a9 e
 |set S n=>obtain⟨o,_,_,_,e,_⟩:=x;exact a9 e
 |ins C dx fs=>obtain⟨_,_,_,e,_⟩:=x;exact a9 e
 |own y=>obtain⟨_,e⟩:=x;exact a9 e
 |xd fs=>obtain⟨_,⟨_,_,_,e,_⟩,_⟩:=x;exact a9 e
 |xA lo hi=>obtain⟨_,_,_,e⟩:=x;exact a9 e
 |cq ob u=>obtain⟨e,_⟩:=x;exact a9 e
 |oj ps=>exact a9 (show h.get? a=some _ from x)
 |met f y=>exact a9 (show h.get? a=some _ from x)
 |ext φ=>obtain⟨_,⟨_,e⟩,_⟩:=x;exact a9 e
theorem Paired.AK {α β:Type}{F G:α->β->Prop}:∀ {wQ:List α}{wR:List β},Paired F wQ wR->(∀a b,F a b->G a b)->Paired G wQ wR
 |_,_,.nil,_=>.nil
 |_,_,.cons r t,f=>.cons (f _ _ r) (Paired.AK t f)
theorem Paired.imp' {α β:Type}{F G:α->β->Prop} (f:∀a b,F a b->G a b) {wQ:List α}{wR:List β} (r:Paired F wQ wR):Paired G wQ wR:=Paired.AK r f
theorem bu.hW (x:bu P w H h a o) (k:∀b u,(b=a\/H b=some (.own a))->h.get? b=some u->h'.get? b=some u)
  (ho:∀b,H b=some (.own a)->H' b=some (.own a)) (ht:∀b xs,H b=some (.tup xs)->H' b=some (.tup xs)):bu P w H' h' a o:=by
 induction o with
 |lst xs=>obtain⟨z,its,n,r,e⟩:=x;exact⟨z,its,n,r,k _ _ (.inl rfl) e⟩
 |tup xs=>obtain⟨z,its,r,ob,e,c⟩:=x;exact⟨z,its,r,ob,k _ _ (.inl rfl) e,c⟩
 |dK kvs=>obtain⟨z,y,vs,r,ob,es,ep,e,c⟩:=x;exact⟨z,y,vs,r,ob,es,ep,k _ _ (.inl rfl) e,c⟩
 |dT kvs =>
  obtain⟨z,y,xs,r,ob,es,ep,e,c⟩:=x;exact⟨z,y,xs,Paired.AK r fun p q z=>⟨z.1,ht _ _ z.2.1,z.2.2⟩,ob,es,ep,k _ _ (.inl rfl) e,c⟩
 |set S n=>obtain⟨ob,es,ep,t,e,c⟩:=x;exact⟨ob,es,ep,t,k _ _ (.inl rfl) e,c⟩
 |ins C dx fs =>
  obtain⟨d,z,ne,e,mA,⟨od,es,ep,e2,c⟩,r⟩:=x;exact⟨ho _ d,z,ne,k _ _ (.inl rfl) e,mA,⟨od,es,ep,k _ _ (.inr d) e2,c⟩,r⟩
 |own y=>obtain⟨ob,e⟩:=x;exact⟨ob,k _ _ (.inl rfl) e⟩
 |xd fs=>obtain⟨mA,⟨od,es,ep,e,c⟩,r⟩:=x;exact⟨mA,⟨od,es,ep,k _ _ (.inl rfl) e,c⟩,r⟩
 |xA lo hi=>obtain⟨t,u,v,e⟩:=x;exact⟨t,u,v,k _ _ (.inl rfl) e⟩
 |cq ob u ih=>obtain⟨e,q⟩:=x;exact⟨k _ _ (.inl rfl) e,ih q⟩
 |oj ps =>
  have e:h.get? a=some { cls:= .none,data:= .fields ps }:=x;show h'.get? a=some { cls:= .none,data:= .fields ps };exact k a _ (.inl rfl) e
 |met f y =>
  have e:h.get? a=some (PySem.W.methodObj (.ref f) (.ref y)):=x;show h'.get? a=some (PySem.W.methodObj (.ref f) (.ref y));exact k a _ (.inl rfl) e
 |ext φ=>obtain⟨p,⟨o,e⟩,st⟩:=x;exact⟨st _ _ p fun o q=>k _ _ (.inl rfl) q,⟨o,k _ _ (.inl rfl) e⟩,st⟩
theorem cR.lt (x:cR P w H h) (e:H a=some o):a < h.objs.size:=(x a o e).lt
theorem cR.fresh (x:cR P w H h) (e:h.objs.size<=a):H a=none:=by
 cases q:H a with
 |none=>rfl
 |some u=>exact absurd (g7 (x.lt q) e) (qF _)
theorem cR.kept (x:cR P w H h) (k:∀b u,h.get? b=some u->h'.get? b=some u):cR P w H h':=fun a o e =>
 (x a o e).hW (fun b u _ q=>k b u q) (fun _ q=>q) fun _ _ q=>q
theorem cR.laid (x:cR P w H h) (k:∀b u,h.get? b=some u->h'.get? b=some u) (hp:h.objs.size<=a) (new:bu P w (upd H a o) h' a o):cR P w (upd H a o) h':=fun b u e=>by
 have hn:=x.fresh hp
 by_cases hb:b=a
 ·subst hb;rw[af]at e;cases e;exact new
 ·rw[ag hb]at e
  exact(x b u e).hW (fun c v _ q=>k c v q) (fun c q=>by rw[ag (aq q hn)];exact q) fun c xs q=>by rw[ag (aq q hn)];exact q
end
def Rd (H:Hp) (a:Addr) (u:HO):Prop:=H a=some u \/ ∃o,H a=some (.cq o u)
theorem Rd.of {H:Hp}{u:HO} (h:H a=some u):Rd H a u:= .inl h
theorem Rd.ok {H:Hp}{u:HO} (r:Rd H a u) (x:cR P w H h):bu P w H h a u:=by
 rcases r with r|⟨o,r⟩
 ·exact x a u r
 ·obtain⟨_,q⟩:=x a _ r
  exact q
def xB:Option HO->Prop
 |some (.lst _)=>True
 |some (.dK _)=>True
 |some (.dT _)=>True
 |some (.set _ _)=>True
 |some (.ins _ _ _)=>True
 |some (.ext _)=>True
 |_=>False
section
variable{H:Hp}{x e:Addr}{o':HO}
theorem cR.write (ok:cR P w H h) (mu:xB (H x)) (he:e=x\/H e=some (.own x)) (k:∀b u,b≠e->h.get? b=some u->h'.get? b=some u) (pT:∃u,h'.get? e=some u)
  (new:bu P w (upd H x o') h' x o'):cR P w (upd H x o') h':=fun b u q=>by
 have Pt:∀c y,H c=some (.own y)->c≠x:=fun c y r z=>by subst z;rw[r]at mu;exact mu
 have ac7:∀c xs,H c=some (.tup xs)->c≠x:=fun c xs r z=>by subst z;rw[r]at mu;exact mu
 by_cases hb:b=x
 ·subst hb;rw[af]at q;cases q;exact new
 ·rw[ag hb]at q
  by_cases rS:b=e
  ·have q':H b=some (.own x):=by
    rcases he with z|z
    ·exact absurd (rS.trans z) hb
    ·rw[rS];exact z
   rw[q]at q';cases q';obtain⟨v,hv⟩:=pT;exact⟨v,by rw[rS];exact hv⟩
  ·refine(ok b u q).hW (fun c v hc r=>k c v ?_ r) (fun c r=>by rw[ag (Pt c b r)];exact r) fun c xs r=>by rw[ag (ac7 c xs r)];exact r
   rcases hc with rfl|hc
   ·exact rS
   ·rintro rfl
    rcases he with z|z
    ·exact Pt c b hc z
    ·rw[hc]at z;cases z;exact hb rfl
end
structure Un (fs ex:List Addr) (H H':Hp) (h h':Heap):Prop where
 keep:∀b o,h.get? b=some o->H b=none->b ∉ fs->b ∉ ex->h'.get? b=some o
 slot:∀b o,h.get? b=some o->H b=none->b∈fs->b ∉ ex -> ∃sl,h'.get? b=some { o with slots:=sl }
 free:∀b o,h.get? b=some o->H b=none->b ∉ ex->H' b=none
 there:∀b o,h.get? b=some o->b ∉ ex -> ∃o',h'.get? b=some o'
 jt:∀b xs,H b=some (.tup xs)->H' b=some (.tup xs)
 ju:∀b o u,H b=some (.cq o u)->H' b=some (.cq o u)
 jU:∀b ps,H b=some (.oj ps) -> ∃more,H' b=some (.oj (ps++more))
section
variable{fs j4 ex ex':List Addr}{H H1 H2:Hp}{h1 h2:Heap}{x e:Addr}{o:HO}
theorem Un.any (u:Un fs ex H H1 h h1) {ob:Obj} (q:h.get? b=some ob) (n:H b=none) (hx:b ∉ ex):∃sl,h1.get? b=some { ob with slots:=sl }:=by
 by_cases hb:b∈fs
 ·exact u.slot b ob q n hb hx
 ·exact⟨ob.slots,u.keep b ob q n hb hx⟩
theorem Un.kept (k:∀b u,h.get? b=some u->h'.get? b=some u):Un fs ex H H h h':=
 ⟨fun b ob q _ _ _=>k b ob q,fun b ob q _ _ _=>⟨ob.slots,k b ob q⟩,fun _ _ _ n _=>n,fun b ob q _=>⟨ob,k b ob q⟩,fun _ _ q=>q,fun _ _ _ q=>q,fun _ ps q=>⟨#[],by rw[q];simp⟩⟩
theorem Un.refl:Un fs ex H H h h:=Un.kept fun _ _ q=>q
theorem Un.laid (k:∀b u,h.get? b=some u->h'.get? b=some u) (hp:h.objs.size<=a) (hn:H a=none):Un fs ex H (upd H a o) h h' where
 keep:=fun b u q _ _ _=>k b u q
 slot:=fun b u q _ _ _=>⟨u.slots,k b u q⟩
 free:=fun b u q n _=>by rw[ag (bx (g7 (a9 q) hp))];exact n
 there:=fun b u q _=>⟨u,k b u q⟩
 jt:=fun b xs q=>by rw[ag (aq q hn)];exact q
 ju:=fun b u xs q=>by rw[ag (aq q hn)];exact q
 jU:=fun b ps q=>⟨#[],by rw[ag (aq q hn),q];simp⟩
theorem Un.write (mu:xB (H x)) (he:e=x\/H e=some (.own x)) (k:∀b u,b≠e->h.get? b=some u->h'.get? b=some u) (pT:∃u,h'.get? e=some u):Un fs ex H (upd H x o) h h':=by
 have hx:∀b,H b=none->b≠x:=fun b n z=>by subst z;rw[n]at mu;exact mu
 have hb:∀b,H b=none->b≠e:=fun b n z=>by
  subst z;rcases he with r|r
  ·exact hx b n r
  ·rw[n]at r;cases r
 have hm:∀b u,H b=some u -> ¬ xB (some u)->b≠x:=fun b u q nm z=>by subst z;rw[q]at mu;exact nm mu
 refine⟨fun b u q n _ _=>k b u (hb b n) q,fun b u q n _ _=>⟨u.slots,k b u (hb b n) q⟩,fun b u q n _=>by rw[ag (hx b n)];exact n,fun b u q _=>?_,
  fun b xs q=>by rw[ag (hm b _ q fun z=>z)];exact q,fun b u xs q=>by rw[ag (hm b _ q fun z=>z)];exact q,fun b ps q=>⟨#[],by rw[ag (hm b _ q fun z=>z),q];simp⟩⟩
 by_cases rS:b=e
 ·subst rS;exact pT
 ·exact⟨u,k b u rS q⟩
end
def kH (h:Heap) (H:Hp):List Addr:=(List.range h.objs.size).filter fun a=>(H a).isSome
def nW (h:Heap) (H:Hp):Heap:=PySem.W.hideAll h (kH h H)
theorem XG (h:Heap) (H:Hp):(nW h H).objs.size=h.objs.size:=PySem.W.hideAll_size _ _
theorem Yw {H:Hp} (e:h.get? b=some o) (n:H b=none):(nW h H).get? b=some o:=
 PySem.W.hideAll_get _ e fun hm=>by
  have q:(H b).isSome=true:=(kz.mp hm).2;rw[n]at q;simp at q
theorem ZC {H:Hp} (e:(nW h H).get? b=some o):h.get? b=some o/\H b=none:=by
 have e':h.get? b=some o:=PySem.W.of_hideAll (kH h H) e;refine⟨e',?_⟩;cases q:H b with
 |none=>rfl
 |some x =>
  have hm:b∈kH h H:=kz.mpr ⟨oT.mpr (a9 e'),by simp[q]⟩
  have z:(nW h H).get? b=none:=PySem.W.hideAll_none (kH h H) hm;rw[z]at e;cases e
def Ep (g h:Heap) (L:Addr):List (Addr×Obj):=(List.range h.objs.size).filterMap fun a=>if a=L\/(g.get? a).isSome=true then none else (h.get? a).map fun o=>(a,o)
theorem DC {L:Addr} (h1:a≠L) (h2:g.get? a=none) (h3:h.get? a=some o):(a,o)∈Ep g h L:=
 y9.mpr ⟨a,oT.mpr (a9 h3),by simp[h1,h2,h3]⟩
theorem Dv {L:Addr}{p:Addr×Obj} (hp:p∈Ep g h L):p.1≠L/\g.get? p.1=none/\h.get? p.1=some p.2:=by
 obtain⟨b,_,e⟩:=y9.mp hp;split at e
 ·cases e
 ·rename_i hn
  cases q:h.get? b with
  |none=>rw[q]at e;simp at e
  |some u =>
   rw[q]at e;simp only[C6,Option.some.injEq]at e;subst e;refine⟨fun z=>hn (.inl z),?_,q⟩;show g.get? b=none;cases r:g.get? b with
   |none=>rfl
   |some v=>exact(hn (.inr (by simp[r]))).elim
theorem M3 {L:Addr}:News g L h (Ep g h L):=fun p hp=>let ⟨a,b,c⟩:=Dv hp;⟨c,a,b⟩
structure Mod (K:PySem.W.Frag) (mg:Str->Option Value) (base:Heap):Prop where
 rT:K.In base
 glob:base.Ns mainGlobals mg
 blt:∃mb,base.Ns builtinsNs mb /\ ∀x:Str,x ≠ "__name__" -> mb x=bootBuiltins x
 nolimit:base.NoLimit
structure Cx where
 prog:Program
 w:World
 K:PySem.W.Frag
 mg:Str->Option Value
 base:Heap
 A:Around
 N:List Str
 eG:Shared
 my:Hp
 env:Env
 outer:List Env
 stack:List Env
 ex:List Addr
 fn:Str->Bool
 calm:Bool
 pn:List (Addr×Obj)
 xe:Value->Shared->Prop
def f9 (l:List Env):List Addr:=l.filterMap (·.frame)
abbrev Cx.fs (X:Cx):List Addr:=f9 X.outer
def Iu (sc:Scope) (x:Str):Prop:=sc.names.lookup x=some .local\/sc.names.lookup x=some .cell\/sc.names.lookup x=some .free
def Loc (sc:Scope) (x:Str):Prop:=sc.names.lookup x=some .local\/sc.names.lookup x=some .cell
def Look (env:Env) (h:Heap) (m:Str->Option Value) (x:Str) (u:Value):Prop:=
 (env.kindOf x=some .local/\m x=some u)\/((env.kindOf x=some .cell\/env.kindOf x=some .free) /\ ∃c,env.cells.lookup x=some c/\h.IsCell c (some u))
structure Cx.Ok (X:Cx):Prop where
 mod:Mod X.K X.mg X.base
 kind:X.env.scope.kind = .function
 glob:X.env.globals=mainGlobals
 blt:X.env.builtins=builtinsNs
 above:X.eG.heap.objs.size<=X.env.locals
 inj:∀x y c,X.env.cells.lookup x=some c->X.env.cells.lookup y=some c->x=y
 has:∀x,(X.env.kindOf x=some .cell\/X.env.kindOf x=some .free) -> ∃c,X.env.cells.lookup x=some c
 pU:∀x c,X.fn x=true->X.env.cells.lookup x=some c->X.eG.heap.objs.size<=c
 hd:X.calm=true->X.A.handled=none
 frames:X.A.frames=some X.stack
 rV:X.stack=X.outer\/(X.stack=X.env::X.outer/\X.env.frame=some X.env.locals)
 om:∀b∈X.ex,b≠X.env.locals /\ ∀x c,X.env.cells.lookup x=some c->c≠b
 bs:∀b o,X.base.get? b=some o->X.eG.heap.get? b=some o/\X.my b=none
 lH:X.base.objs.size<=X.eG.heap.objs.size
 pK:∀b o,X.base.get? b=some o->b ∉ X.ex
 nX:∀b∈X.ex,b ∉ X.fs
 iB:X.eG.heap.FunFrames X.base X.outer
 mI:∀b∈X.fs,X.my b=none
structure Inv (X:Cx) (pins:List (Addr×Obj)) (σ:List (Option V)) (H:Hp) (s:Shared):Prop where
 ok:X.Ok
 os:s.os=X.eG.os
 bare:AllBare s.gens
 base:Un X.fs X.ex X.my H X.eG.heap s.heap
 loc:∃m,s.heap.Ns X.env.locals m /\ ∀ (i:Nat) (x:Str) (v:V),X.N[i]? = some x->σ[i]? = some (some v)->Iu X.env.scope x -> ∃u,RelV v u/\Look X.env s.heap m x u
 cell:∀x c,X.env.cells.lookup x=some c -> ∃v,s.heap.IsCell c v
 free:H X.env.locals=none
 gN:∀x c,X.env.cells.lookup x=some c->H c=none
 pin:∀p∈X.pn++pins,s.heap.get? p.1=some p.2/\H p.1=none/\p.1≠X.env.locals/\p.1 ∉ X.fs /\ ∀v,p.2.data ≠ .cell v
 au:cR X.prog X.w H s.heap
 len:σ.length=X.N.length
section
variable{X:Cx}{σ:List (Option V)}{H H':Hp}
theorem Cx.Ok.AL (ok:X.Ok) (e:X.base.get? b=some o):b ∉ X.fs:=fun hb=>by
 have:=(ok.iB.mem hb).1;rw[e]at this;cases this
theorem Inv.bs (I:Inv X pins σ H s):∀b o,X.base.get? b=some o->s.heap.get? b=some o/\H b=none:=fun b o e =>
 ⟨I.base.keep b o (I.ok.bs b o e).1 (I.ok.bs b o e).2 (I.ok.AL e) (I.ok.pK b o e),I.base.free b o (I.ok.bs b o e).1 (I.ok.bs b o e).2 (I.ok.pK b o e)⟩
theorem Inv.bk (I:Inv X pins σ H s):∀b o,X.base.get? b=some o->s.heap.get? b=some o:=fun b o e=>(I.bs b o e).1
theorem Inv.mod (I:Inv X pins σ H s):Mod X.K X.mg X.base:=I.ok.mod
theorem Inv.bX (I:Inv X pins σ H s):X.K.In s.heap:=I.ok.mod.rT.keeps I.bk
theorem Inv.lt (I:Inv X pins σ H s):X.env.locals < s.heap.objs.size:=let ⟨_,hn,_⟩:=I.loc;hn.lt
theorem Inv.sz (I:Inv X pins σ H s):X.eG.heap.objs.size<=s.heap.objs.size:=fw I.ok.above (C7 I.lt)
theorem Inv.ac8 (I:Inv X pins σ H s) (h:s.heap.objs.size<=a):a ∉ X.fs:=fun hb=>by
 obtain⟨_,o,ho,_⟩:=I.ok.iB.mem hb;exact absurd (g7 (a9 ho) (fw I.sz h)) (qF _)
theorem Inv.lI (I:Inv X pins σ H s):∀x c,X.env.cells.lookup x=some c->c≠X.env.locals:=fun x c e z=>by
 obtain⟨v,o,ho,hd⟩:=I.cell x c e;obtain⟨m,⟨o',es,ep,eQ,kI,_⟩,_⟩:=I.loc;rw[z,eQ]at ho;cases ho;rw[kI]at hd;cases hd
theorem Inv.iB (I:Inv X pins σ H s):s.heap.FunFrames X.base X.outer:=by
 have all:∀ (l:List Env),(∀b∈f9 l,b∈X.fs)->X.eG.heap.FunFrames X.base l->s.heap.FunFrames X.base l:=by
  intro l
  induction l with
  |nil=>intro _ _;trivial
  |cons env r ih =>
   intro hs hl;obtain⟨hk,⟨L,o,hf,hn,ho,hd⟩,hr⟩:=hl;have hL:L∈X.fs:=hs L (by unfold f9;rw[U8,hf];exact aW)
   obtain⟨sl,e⟩:=I.base.slot L o ho (I.ok.mI L hL) hL fun z=>I.ok.nX L z hL;exact⟨hk,⟨L,_,hf,hn,e,hd⟩,ih (fun b hb=>hs b (by unfold f9;rw[U8,hf];exact bq _ hb)) hr⟩
 exact all X.outer (fun _ hb=>hb) I.ok.iB
theorem Inv.stack (I:Inv X pins σ H s):s.heap.FunFrames X.base X.stack:=by
 rcases I.ok.rV with e|⟨e,hf⟩
 ·rw[e];exact I.iB
 ·rw[e]
  obtain⟨m,hn,_⟩:=I.loc;refine .cons (by rw[I.ok.kind];decide) hf hn ?_ I.iB
  exact C8 (fw I.ok.lH I.ok.above)
theorem Inv.Ab (I:Inv X pins σ H s):∀b∈f9 X.stack,b∈X.env.locals::X.fs:=fun b hb=>by
 rcases I.ok.rV with e|⟨e,hf⟩
 ·rw[e]at hb;exact bq _ hb
 ·rw[e]at hb
  unfold f9 at hb;rw[U8,hf]at hb;exact hb
theorem Inv.Er (I:Inv X pins σ H s):∀b∈f9 X.stack,H b=none:=fun b hb=>by
 rcases bj.mp (I.Ab b hb) with e|hb
 ·rw[e];exact I.free
 ·obtain⟨_,o,ho,_⟩:=I.ok.iB.mem hb
  exact I.base.free b o ho (I.ok.mI b hb) fun z=>I.ok.nX b z hb
theorem Inv.step {g':Array GenState}{d':Drawn} (I:Inv X pins σ H s)
  (mJ:∀b∈ch,(b∈X.ex\/X.eG.heap.objs.size<=b)/\b≠X.env.locals/\(∀x c,X.env.cells.lookup x=some c->c≠b) /\ ∀p∈X.pn++pins,p.1≠b)
  (keep:∀b o,b≠X.env.locals->b ∉ X.fs->b ∉ ch->s.heap.get? b=some o->H b=none->h'.get? b=some o)
  (slot:∀b o,b≠X.env.locals->b∈X.fs->b ∉ ch->s.heap.get? b=some o->H b=none -> ∃sl,h'.get? b=some { o with slots:=sl }) (free:∀b o,b ∉ ch->s.heap.get? b=some o->H b=none->H' b=none)
  (there:∀b o,b ∉ ch->s.heap.get? b=some o -> ∃o',h'.get? b=some o')
  (jt:∀b xs,H b=some (.tup xs)->H' b=some (.tup xs)) (ju:∀b o u,H b=some (.cq o u)->H' b=some (.cq o u)) (jU:∀b ps,H b=some (.oj ps) -> ∃more,H' b=some (.oj (ps++more)))
  (ns:∀m,s.heap.Ns X.env.locals m->h'.Ns X.env.locals m) (au:cR X.prog X.w H' h') (hg:AllBare g') :
  Inv X pins σ H' { s with heap:=h',gens:=g',drawn:=d',toks:=t' }:=by
 have xC:∀b o,X.eG.heap.get? b=some o->b≠X.env.locals:=fun b o e=>bx (g7 (a9 e) I.ok.above);have BL:∀b o,X.eG.heap.get? b=some o->b ∉ X.ex->b ∉ ch:=fun b o e hx hb=>by
  rcases (mJ b hb).1 with z|z
  ·exact hx z
  ·exact absurd (g7 (a9 e) z) (qF _)
 have cellK:∀x c,X.env.cells.lookup x=some c -> ∀v,s.heap.IsCell c v->h'.IsCell c v:=fun x c e v ⟨o,ho,hd⟩=>by
  have iH:c ∉ ch:=fun z=>(mJ c z).2.2.1 x c e rfl
  by_cases hc:c∈X.fs
  ·obtain⟨sl,q⟩:=slot c o (I.lI x c e) hc iH ho (I.gN x c e)
   exact⟨_,q,hd⟩
  ·exact⟨o,keep c o (I.lI x c e) hc iH ho (I.gN x c e),hd⟩
 refine⟨I.ok,I.os,hg,⟨fun b o e n hb hx=>?_,fun b o e n hb hx=>?_,fun b o e n hx=>?_,fun b o e hx=>?_,fun b xs e=>jt b xs (I.base.jt b xs e),fun b o xs e=>ju b o xs (I.base.ju b o xs e),fun b ps e=>?_⟩,?_,fun x c e=>?_,?_,fun x c e=>?_,fun p hp=>?_,au,I.len⟩
 ·exact keep b o (xC b o e) hb (BL b o e hx) (I.base.keep b o e n hb hx) (I.base.free b o e n hx)
 ·obtain⟨sl,e1⟩:=I.base.slot b o e n hb hx
  obtain⟨Iv,e2⟩:=slot b _ (xC b o e) hb (BL b o e hx) e1 (I.base.free b o e n hx);exact⟨Iv,e2⟩
 ·obtain⟨o',e1⟩:=I.base.there b o e hx
  exact free b o' (BL b o e hx) e1 (I.base.free b o e n hx)
 ·obtain⟨o',e1⟩:=I.base.there b o e hx
  exact there b o' (BL b o e hx) e1
 ·obtain⟨m1,e1⟩:=I.base.jU b ps e
  obtain⟨m2,e2⟩:=jU b _ e1;exact⟨m1++m2,by rw[e2,Array.append_assoc]⟩
 ·obtain⟨m,hn,hl⟩:=I.loc
  refine⟨m,ns m hn,fun i x v e1 e2 e3=>?_⟩;obtain⟨u,r,l⟩:=hl i x v e1 e2 e3;refine⟨u,r,?_⟩;rcases l with l|⟨k,c,e,z⟩
  ·exact .inl l
  ·exact .inr ⟨k,c,e,cellK x c e _ z⟩
 ·obtain⟨v,z⟩:=I.cell x c e
  exact⟨v,cellK x c e v z⟩
 ·obtain⟨m,⟨o,_,_,ho,_⟩,_⟩:=I.loc
  exact free _ o (fun z=>(mJ _ z).2.1 rfl) ho I.free
 ·obtain⟨v,o,ho,hd⟩:=I.cell x c e
  exact free c o (fun z=>(mJ c z).2.2.1 x c e rfl) ho (I.gN x c e)
 ·obtain⟨e,n,ne,nf,d⟩:=I.pin p hp
  have iH:p.1 ∉ ch:=fun z=>(mJ p.1 z).2.2.2 p hp rfl;exact⟨keep p.1 p.2 ne nf iH e n,free p.1 p.2 iH e n,ne,nf,d⟩
theorem Inv.un (I:Inv X pins σ H s) (u:Un X.fs [] H H' s.heap h') (au:cR X.prog X.w H' h'):Inv X pins σ H' { s with heap:=h',toks:=t' }:=by
 obtain⟨m,⟨o,es,ep,ho,r⟩,_⟩:=id I.loc;obtain⟨sl,hL⟩:=u.any ho I.free (by simp)
 exact I.step (g':=s.gens) (d':=s.drawn) (ch:= []) (fun _ z=>nomatch z) (fun b o _ hb _ e n=>u.keep b o e n hb (by simp)) (fun b o _ hb _ e n=>u.slot b o e n hb (by simp)) (fun b o _ e n=>u.free b o e n (by simp)) (fun b o _ e=>u.there b o e (by simp)) u.jt u.ju u.jU (fun m' hm=>by
  obtain⟨o',gb,uF,eQ,r'⟩:=hm;rw[ho]at eQ;cases eQ;exact⟨_,gb,uF,hL,r'⟩) au I.bare
theorem Inv.call {g':Array GenState}{d':Drawn} (I:Inv X pins σ H s) (u:Un (f9 X.stack) ch H H' s.heap h') (au:cR X.prog X.w H' h') (hg:AllBare g')
  (mJ:∀b∈ch,(b∈X.ex\/X.eG.heap.objs.size<=b)/\b≠X.env.locals/\(∀x c,X.env.cells.lookup x=some c->c≠b) /\ ∀p∈X.pn++pins,p.1≠b) :
  Inv X pins σ H' { s with heap:=h',gens:=g',drawn:=d',toks:=t' }:=by
 obtain⟨m,⟨o,es,ep,ho,r⟩,_⟩:=id I.loc;obtain⟨sl,hL⟩:=u.any ho I.free fun z=>(mJ _ z).2.1 rfl;exact I.step (ch:=ch) mJ (fun b o hL hb hc e n=>u.keep b o e n (fun z=>(bj.mp (I.Ab b z)).elim hL hb) hc) (fun b o _ _ hc e n=>u.any e n hc) (fun b o hc e n=>u.free b o e n hc) (fun b o hc e=>u.there b o e hc) u.jt u.ju u.jU (fun m' hm=>by
  obtain⟨o',gb,uF,eQ,r'⟩:=hm;rw[ho]at eQ;cases eQ;exact⟨_,gb,uF,hL,r'⟩) au hg
theorem Inv.turned (I:Inv X pins σ H s) (k:∀b o,b≠it->s.heap.get? b=some o->h'.get? b=some o) (hn:H it=none) (hL:it≠X.env.locals)
  (h1:it∈X.ex\/X.eG.heap.objs.size<=it) (h2:∀x c,X.env.cells.lookup x=some c->c≠it) (h3:∀p∈X.pn++pins,p.1≠it):Inv X pins σ H { s with heap:=h',toks:=t' }:=by
 have RF:∀b u,H b=some u->b≠it:=fun b u e z=>by rw[z,hn]at e;cases e
 refine I.step (g':=s.gens) (d':=s.drawn) (ch:= [it]) (fun b hb=>?_) (fun b o _ _ hc e _=>k b o (fun z=>hc (by simp[z])) e) (fun b o _ _ hc e _=>⟨o.slots,k b o (fun z=>hc (by simp[z])) e⟩) (fun _ _ _ _ n=>n)
  (fun b o hc e=>⟨o,k b o (fun z=>hc (by simp[z])) e⟩) (fun _ _ e=>e) (fun _ _ _ e=>e) (fun b ps e=>⟨#[],by rw[e];simp⟩) (fun m hm=>?_) (fun b u e=>?_) I.bare
 ·have e:b=it:=by simpa using hb
  subst e;exact⟨h1,hL,h2,h3⟩
 ·obtain⟨o,es,ep,ho,r⟩:=hm
  exact⟨o,es,ep,k _ o (aN hL) ho,r⟩
 ·refine(I.au b u e).hW (fun c v hc q=>k c v ?_ q) (fun _ q=>q) fun _ _ q=>q
  rcases hc with z|z
  ·rw[z];exact RF b u e
  ·exact RF c _ z
theorem Inv.tok (I:Inv X pins σ H s) (t:Nat):Inv X pins σ H { s with toks:=t }:=I.un (h':=s.heap) (t':=t) Un.refl I.au
theorem Inv.kept (I:Inv X pins σ H s) (k:∀b u,s.heap.get? b=some u->h'.get? b=some u):Inv X pins σ H { s with heap:=h',toks:=t' }:=I.un (Un.kept k) (I.au.kept k)
theorem Inv.laid {o:HO} (I:Inv X pins σ H s) (k:∀b u,s.heap.get? b=some u->h'.get? b=some u) (hp:s.heap.objs.size<=a) (new:bu X.prog X.w (upd H a o) h' a o) :
  Inv X pins σ (upd H a o) { s with heap:=h',toks:=t' }:=I.un (Un.laid k hp (I.au.fresh hp)) (I.au.laid k hp new)
theorem Inv.write {x e:Addr}{o:HO} (I:Inv X pins σ H s) (mu:xB (H x)) (he:e=x\/H e=some (.own x)) (k:∀b u,b≠e->s.heap.get? b=some u->h'.get? b=some u) (pT:∃u,h'.get? e=some u)
  (new:bu X.prog X.w (upd H x o) h' x o):Inv X pins σ (upd H x o) { s with heap:=h',toks:=t' }:=I.un (Un.write mu he k pT) (I.au.write mu he k pT new)
theorem Inv.NR {wu:List (Addr×Obj)} (I:Inv X pins σ H s) (h:∀p∈wu,s.heap.get? p.1=some p.2/\H p.1=none/\p.1≠X.env.locals/\p.1 ∉ X.fs /\ ∀v,p.2.data ≠ .cell v):Inv X wu σ H s:=
 ⟨I.ok,I.os,I.bare,I.base,I.loc,I.cell,I.free,I.gN,fun p hp=>(ee.mp hp).elim (fun z=>I.pin p (nu _ z)) (h p),I.au,I.len⟩
theorem D4 (hN:N.Nodup) (a:N[i]? = some x) (b:N[j]? = some x):i=j:=by
 obtain⟨h1,e1⟩:=cu.mp a;obtain⟨h2,e2⟩:=cu.mp b;exact(List.getElem_inj hN).mp (e1.trans e2.symm)
theorem Mf {M:Model}{v:V}{Q:Unit->Shared->Prop} (I:Inv X pins σ H s) (hN:X.N.Nodup) (hi:X.N[i]? = some x) (hx:Loc X.env.scope x) (r:RelV v u)
  (h:∀s',Inv X pins (σ.set i (some v)) H s'->(∃a,Heap.SameBut a s.heap s'.heap/\(a=X.env.locals\/X.env.cells.lookup x=some a))->Q () s') (hf:X.fn x=true\/X.env.scope.names.lookup x=some .local:=by first|exact .inl rfl|exact .inr rfl|assumption):wpAny M A (storeName X.env x u) Q E s:=by
 obtain⟨m,hn,hl⟩:=id I.loc;have FH:(X.env.scope.kind == .class || (X.env.scope.kind == .module && X.env.locals != X.env.globals))=false:=by rw[I.ok.kind];rfl
 have Pu:i < σ.length:=by rw[I.len];exact(cu.mp hi).1
 have lI:=I.lI;have tracked:∀ {a:Addr}{h':Heap},(∃o,s.heap.get? a=some o/\H a=none)->Heap.SameBut a s.heap h'->cR X.prog X.w H h':=fun {a h'} ha hs b ob e=>by
  obtain⟨_,_,wx⟩:=ha;refine(I.au b ob e).hW (fun c w' hc q=>(hs.2 c ?_).trans q) (fun _ q=>q) fun _ _ q=>q;rintro rfl;rcases hc with rfl|hc
  ·rw[wx]at e;cases e
  ·rw[wx]at hc;cases hc
 rcases hx with hk|hk
 ·refine wpAny_storeName_local hk hn (fun h' pV hs=>?_) FH
  obtain⟨oL,_,_,RG,_⟩:=id hn;refine h _ ⟨I.ok,I.os,I.bare,⟨fun b o e n hb hx=>?_,fun b o e n hb hx=>?_,I.base.free,fun b o e hx=>?_,I.base.jt,I.base.ju,I.base.jU⟩,⟨_,pV,fun j y v' e1 e2 e3=>?_⟩,fun y c e=>?_,I.free,I.gN,fun p hp=>?_,tracked ⟨oL,RG,I.free⟩ hs,by simpa using I.len⟩ ⟨_,hs,.inl rfl⟩
  ·exact(hs.2 b (bx (g7 (a9 e) I.ok.above))).trans (I.base.keep b o e n hb hx)
  ·obtain⟨sl,e1⟩:=I.base.slot b o e n hb hx
   exact⟨sl,(hs.2 b (bx (g7 (a9 e) I.ok.above))).trans e1⟩
  ·obtain⟨o',e1⟩:=I.base.there b o e hx
   exact⟨o',(hs.2 b (bx (g7 (a9 e) I.ok.above))).trans e1⟩
  ·by_cases hj:j=i
   ·subst hj
    rw[hi]at e1;cases e1;rw[U9 Pu]at e2;cases e2
    exact⟨u,r,.inl ⟨hk,by simp⟩⟩
   ·rw[U' (aN hj)]at e2
    obtain⟨u',r',q⟩:=hl j y v' e1 e2 e3;refine⟨u',r',?_⟩;rcases q with⟨k,e⟩|⟨k,c,e,z⟩
    ·refine .inl ⟨k,?_⟩
     have:y≠x:=fun e=>hj (D4 hN e1 (e ▸ hi));simp[this,e]
    ·exact .inr ⟨k,c,e,z.sameBut hs (lI y c e)⟩
  ·obtain⟨w',z⟩:=I.cell y c e
   exact⟨w',z.sameBut hs (lI y c e)⟩
  ·obtain⟨e,n,ne,nf,d⟩:=I.pin p hp
   exact⟨(hs.2 p.1 ne).trans e,n,ne,nf,d⟩
 ·have Iw:X.fn x=true:=by
   rcases hf with z|z
   ·exact z
   ·rw[z]at hk;cases hk
  obtain⟨c,hc⟩:=I.ok.has x (.inl hk);obtain⟨w',z⟩:=I.cell x c hc;refine wpAny_storeName_cell I.ok.kind hk hc z (fun h' oq hs=>?_);obtain⟨oc,RH,ac9⟩:=id z;refine h { s with heap:=h' } ⟨I.ok,I.os,I.bare,⟨fun b o e n hb hx=>?_,fun b o e n hb hx=>?_,I.base.free,fun b o e hx=>?_,I.base.jt,I.base.ju,I.base.jU⟩,⟨m,hn.sameBut hs (aN (lI x c hc)),fun j y v' e1 e2 e3=>?_⟩,fun y c' e=>?_,I.free,I.gN,fun p hp=>?_,tracked ⟨oc,RH,I.gN x c hc⟩ hs,by simpa using I.len⟩ ⟨c,hs,.inr hc⟩
  ·exact(hs.2 b (bx (g7 (a9 e) (I.ok.pU x c Iw hc)))).trans (I.base.keep b o e n hb hx)
  ·obtain⟨sl,e1⟩:=I.base.slot b o e n hb hx
   exact⟨sl,(hs.2 b (bx (g7 (a9 e) (I.ok.pU x c Iw hc)))).trans e1⟩
  ·obtain⟨o',e1⟩:=I.base.there b o e hx
   exact⟨o',(hs.2 b (bx (g7 (a9 e) (I.ok.pU x c Iw hc)))).trans e1⟩
  ·by_cases hj:j=i
   ·subst hj
    rw[hi]at e1;cases e1;rw[U9 Pu]at e2;cases e2
    exact⟨u,r,.inr ⟨.inl hk,c,hc,oq⟩⟩
   ·rw[U' (aN hj)]at e2
    obtain⟨u',r',q⟩:=hl j y v' e1 e2 e3;refine⟨u',r',?_⟩;rcases q with q|⟨k,c',e,z'⟩
    ·exact .inl q
    ·refine .inr ⟨k,c',e,z'.sameBut hs ?_⟩
     rintro rfl;exact hj (D4 hN e1 (I.ok.inj _ _ _ e hc ▸ hi))
  ·by_cases BM:c'=c
   ·subst BM;exact⟨_,oq⟩
   ·obtain⟨w2,z2⟩:=I.cell y c' e
    exact⟨w2,z2.sameBut hs BM⟩
  ·obtain⟨e,n,ne,nf,d⟩:=I.pin p hp
   refine⟨(hs.2 p.1 ?_).trans e,n,ne,nf,d⟩;intro q;rw[q,RH]at e;have q':oc=p.2:=gA e;exact d w' (by rw[<-q'];exact ac9)
theorem vJ {M:Model}{v:V}{Q:Unit->Shared->Prop} (I:Inv X pins σ H s) (hN:X.N.Nodup) (hi:X.N[i]? = some x) (hx:Loc X.env.scope x) (r:RelV v u)
  (h:∀s',Inv X pins (σ.set i (some v)) H s'->Q () s') (hf:X.fn x=true\/X.env.scope.names.lookup x=some .local:=by first|exact .inl rfl|exact .inr rfl|assumption):wpAny M A (storeName X.env x u) Q E s:=
 Mf I hN hi hx r (fun s' I' _=>h s' I') hf
theorem Inv.Am (I:Inv X pins σ H s) (ho:s'.os=s.os) (u:Un (f9 X.stack) ch H H' s.heap s'.heap) (au:cR X.prog X.w H' s'.heap) (hg:AllBare s'.gens)
  (mJ:∀b∈ch,(b∈X.ex\/X.eG.heap.objs.size<=b)/\b≠X.env.locals/\(∀x c,X.env.cells.lookup x=some c->c≠b) /\ ∀p∈X.pn++pins,p.1≠b):Inv X pins σ H' s':=by
 obtain⟨h',g',d',t',o'⟩:=s';have e:o'=s.os:=ho;subst e;exact I.call (g':=g') (t':=t') (d':=d') u au hg mJ
end
abbrev XK:=Value->Option Addr->Hp->Prop
abbrev St:=List (Option V)
abbrev VK:=V->Hp->Prop
abbrev TE:=St->Hp->VK->Prop
abbrev TT:=St->Hp->(Bool->Hp->Prop)->Prop
abbrev TA:=St->Hp->(List V->Hp->Prop)->Prop
structure Ends where
 nx:St->Hp->Prop
 rt:VK
 bk:St->Hp->Prop:=fun _ _=>False
 ct:St->Hp->Prop:=fun _ _=>False
abbrev TS:=Ends->St->Hp->Prop
end L2
variable{xs ys vs ws wb wt lv:List L2.V}{H H' H1 H2:L2.Hp}{X:L2.Cx}{σ iI:L2.St}{v y:L2.V}{ta te tl tv:L2.TE}{tb:L2.TS}{ti:L2.TT}{kvs kh kk kq:List (List L2.Key×L2.V)}{O:L2.HO}
namespace L2
open PySem PySem.Spec PyProof.Rows
def EP (X:Cx) (pins:List (Addr×Obj)) (σ:St) (Q:VK) (u:Value) (s':Shared):Prop:= ∃v H',Inv X pins σ H' s'/\RelV v u/\Q v H'
def TP (X:Cx) (pins:List (Addr×Obj)) (σ:St) (Q:Bool->Hp->Prop) (b:Bool) (s':Shared):Prop:= ∃H',Inv X pins σ H' s'/\Q b H'
def AP (X:Cx) (pins:List (Addr×Obj)) (σ:St) (Q:List V->Hp->Prop) (us:List Value) (s':Shared):Prop:= ∃vs H',Inv X pins σ H' s'/\Vals vs us/\Q vs H'
def SP (X:Cx) (pins:List (Addr×Obj)) (D:Ends) (f:Flow) (s':Shared):Prop:=
 match f with
 |.next=>∃aK H',Inv X pins aK H' s'/\D.nx aK H'
 |.brk=>∃aK H',Inv X pins aK H' s'/\D.bk aK H'
 |.cont=>∃aK H',Inv X pins aK H' s'/\D.ct aK H'
 |.ret u=>∃v aK H',Inv X pins aK H' s'/\RelV v u/\D.rt v H'
def PE (X:Cx) (e:Expr) (t:TE):Prop:=
 ∀ (pins:List (Addr×Obj)) (s:Shared) (σ:St) (H:Hp) (Q:VK),Inv X pins σ H s->t σ H Q->wpAny (model X.prog X.w) X.A (eval e X.env) (EP X pins σ Q) X.xe s
def PT (X:Cx) (e:Expr) (t:TT):Prop:=
 ∀ (pins:List (Addr×Obj)) (s:Shared) (σ:St) (H:Hp) (Q:Bool->Hp->Prop),Inv X pins σ H s->t σ H Q->wpAny (model X.prog X.w) X.A (isTrue e X.env (eval e X.env)) (TP X pins σ Q) X.xe s
def PW (X:Cx) (e:Expr) (t:TT):Prop:=
 ∀ (whole:Sem Value) (pins:List (Addr×Obj)) (s:Shared) (σ:St) (H:Hp) (Q:Bool->Hp->Prop),Inv X pins σ H s->t σ H Q->wpAny (model X.prog X.w) X.A (isTrue e X.env whole) (TP X pins σ Q) X.xe s
theorem PW.pt {t:TT} (h:PW X e t):PT X e t:=h _
def PA (X:Cx) (es:List Expr) (t:TA):Prop:=
 ∀ (pos:Pos) (pins:List (Addr×Obj)) (s:Shared) (σ:St) (H:Hp) (Q:List V->Hp->Prop),Inv X pins σ H s->t σ H Q->wpAny (model X.prog X.w) X.A (spliced (backTo pos (starEach es X.env))) (AP X pins σ Q) X.xe s
def PS (X:Cx) (st:Stmt) (t:TS):Prop:=
 ∀ (pins:List (Addr×Obj)) (s:Shared) (σ:St) (H:Hp) (D:Ends),Inv X pins σ H s->t D σ H->wpAny (model X.prog X.w) X.A (exec st X.env) (SP X pins D) X.xe s
def ff (X:Cx) (st:List Stmt) (t:TS):Prop:=
 ∀ (pins:List (Addr×Obj)) (s:Shared) (σ:St) (H:Hp) (D:Ends),Inv X pins σ H s->t D σ H->wpAny (model X.prog X.w) X.A (execs st X.env) (SP X pins D) X.xe s
theorem aw {α:Type}{t:Sem α}{Q Q':α->Shared->Prop}{M:Model} (h:wpAny M A t Q E s) (hQ:∀a s,Q a s->Q' a s):wpAny M A t Q' E s:=lZ h hQ fun _ _ x=>x
section
def hX (i:Nat):TE:=fun σ H Q=>∃v,σ[i]? = some (some v)/\Q v H
def tC (v:V):TE:=fun _ H Q=>Q v H
theorem aaP (hN:X.N[i]? = some x) (hv:Iu X.env.scope x) (hd:(x==("__debug__" : Str))=false:=by decide) (fg:(x==("__classdict__" : Str))=false:=by decide):PE X (.Name x pos) (hX i):=by
 intro pins s σ H Q I h;obtain⟨v,e,h⟩:=h;obtain⟨m,hn,hl⟩:=I.loc;obtain⟨u,r,l⟩:=hl i x v hN e hv;have fin:EP X pins σ Q u s:=⟨v,H,I,r,h⟩;rcases l with⟨hk,hm⟩|⟨hk,c,hc,OQ⟩
 ·exact wpAny_Name (wpAny_loadName_local I.ok.kind hk hn hm fin) hd
 ·rcases hk with hk|hk
  ·exact wpAny_Name (wpAny_loadName_cell I.ok.kind hk hc OQ fin) hd
  ·exact wpAny_Name (wpAny_loadName_free I.ok.kind hk hc OQ fin fg) hd
theorem ay {i j pos}:PE X (.Constant (.int i) j pos) (tC (.int i)):=fun _ _ _ H _ I h=>wpAny_Constant_int ⟨.int i,H,I.tok _,⟨_,rfl⟩,h⟩
theorem pH {b j pos}:PE X (.Constant (.bool b) j pos) (tC (.bl b)):=fun _ _ _ H _ I h=>Constant_bool ⟨.bl b,H,I,rfl,h⟩
theorem iy {j pos}:PE X (.Constant .none j pos) (tC .aF):=fun _ _ _ H _ I h=>Constant_none ⟨.aF,H,I,rfl,h⟩
theorem b9 {x j pos}:PE X (.Constant (.str x) j pos) (tC (.str x)):=fun _ _ _ H _ I h=>Calls.Constant_str ⟨.str x,H,I.tok _,⟨_,rfl⟩,h⟩
def Gl (X:Cx) (x:Str):Prop:=X.env.kindOf x=some .globalImplicit
theorem tR (I:Inv X pins σ H s) (hg:Gl X x) (hm:X.mg x=some u) (h:Q u s)
  (hd:(x==("__debug__" : Str))=false:=by decide):wpAny (model X.prog X.w) X.A (eval (.Name x pos) X.env) Q E s:=
 ani I.ok.kind hg (Calls.loadGlobal_global (by rw[I.ok.glob];exact I.mod.glob.keeps I.bk) hm h) hd
theorem vZ (I:Inv X pins σ H s) (hg:Gl X x) (hm:X.mg x=none) (hv:bootBuiltins x=some u) (h:Q u s)
  (hn:x ≠ "__name__" :=by decide) (hd:(x==("__debug__" : Str))=false:=by decide):wpAny (model X.prog X.w) X.A (eval (.Name x pos) X.env) Q E s:=by
 obtain⟨mb,h1,h2⟩:=I.mod.blt;exact ani I.ok.kind hg (Calls.loadGlobal_builtin (by rw[I.ok.glob];exact I.mod.glob.keeps I.bk) hm (by rw[I.ok.blt];exact h1.keeps I.bk) ((h2 x hn).trans hv) h) hd
theorem NS (hg:Gl X x) (hm:X.mg x=none) (hv:bootBuiltins x=some u) (r:RelV v u) (hn:x ≠ "__name__" :=by decide) (hd:(x==("__debug__" : Str))=false:=by decide):PE X (.Name x pos) (tC v):=
 fun _ _ _ H _ I h=>vZ I hg hm hv ⟨v,H,I,r,h⟩ hn hd
variable{a b:Expr}{tb:TE}
def PC (X:Cx) (op:CmpOp) (a b:Expr) (t:TE):Prop:=
 ∀ (pins:List (Addr×Obj)) (s:Shared) (σ:St) (H:Hp) (Q:VK),Inv X pins σ H s->t σ H Q ->
  wpAny (model X.prog X.w) X.A (eval a X.env) (fun v bh=>wpAny (model X.prog X.w) X.A (eval b X.env) (fun u lB=>wpAny (model X.prog X.w) X.A (compareOp op v u) (EP X pins σ Q) X.xe lB) X.xe bh) X.xe s
theorem M4 (b:Expr) {op:CmpOp} (h:op ≠ .In) (h2:op ≠ .NotIn):behindInMarks op b=false:=by
 have e1:(op==CmpOp.In)=false:=by cases op <;> first|rfl|exact absurd rfl h
 have e2:(op==CmpOp.NotIn)=false:=by cases op <;> first|rfl|exact absurd rfl h2
 cases b <;> simp[behindInMarks,e1,e2]
def abF (ta:TE):TE:=fun σ H Q=>ta σ H fun x H1=>Q (.bl (!decide (x = .aF))) H1
theorem RelV.Yx {x:V}{v:Value} (r:RelV x v):(v==Value.none)=decide (x = .aF):=by
 cases x with
 |aF=>cases r;rfl
 |bl _=>cases r;rfl
 |int _=>obtain⟨t,rfl⟩:=r;rfl
 |str _=>obtain⟨t,rfl⟩:=r;rfl
 |i4 _=>obtain⟨t,rfl⟩:=r;rfl
 |i5 _=>obtain⟨t,rfl⟩:=r;rfl
 |ref _=>cases r;rfl
 |ty _=>cases r;rfl
theorem ZD {j pos'} (ha:PE X a ta):PC X .IsNot a (.Constant .none j pos') (abF ta):=by
 intro pins s σ H Q I h;refine aw (ha pins s σ H _ I h) fun v s1 ⟨x,H1,I1,r1,q1⟩=>?_;exact Constant_none (isnot_none_gen ⟨.bl _,H1,I1,by rw[r1.Yx];rfl,q1⟩)
def tB (t:TE):TT:=fun σ H Q=>t σ H fun x H1=>∃c,x = .bl c/\Q c H1
theorem aaQ {op:CmpOp}{t:TE} (h:PC X op a b t) (h1:behindInMarks op b=false:=by first|exact M4 _ (by decide) (by decide)|rfl):PE X (.Compare a [op] [b] pos) t:=fun pins s σ H Q I hw=>wpAny_Compare1 (h pins s σ H Q I hw) h1
theorem mj {op:CmpOp}{t:TE} (h:PC X op a b t) (h1:behindInMarks op b=false:=by first|exact M4 _ (by decide) (by decide)|rfl):PT X (.Compare a [op] [b] pos) (tB t):=by
 intro pins s σ H Q I hw;refine wpAny_isTrue_Compare1 (aw (h pins s σ H _ I hw) fun v s1 h1=>aw h1 fun u s2 h2=>aw h2 fun c s3 ⟨x,H1,I1,r1,q1⟩=>?_) h1;obtain⟨d,rfl,q⟩:=q1;cases r1
 exact nB ⟨H1,I1,q⟩
theorem pA {t:TE} (h:PE X e t) (he:∀whole,isTrue e X.env whole=(do let v <- whole;standAt e.pos;holding [v] (truthy v)):=by intro _;rfl):PT X e (tB t):=by
 intro pins s σ H Q I hw;refine isTrue_plain (aw (h pins s σ H _ I hw) fun v s1 ⟨x,H1,I1,r1,q1⟩=>?_) (he _);obtain⟨d,rfl,q⟩:=q1;cases r1
 exact nB ⟨H1,I1,q⟩
variable{tA BN:TT}{rest:List Expr}
def Pw (t u:TT):TT:=fun σ H Q=>t σ H fun c H1=>if c=true then u σ H1 Q else Q false H1
def Iy (t u:TT):TT:=fun σ H Q=>t σ H fun c H1=>if c=true then Q true H1 else u σ H1 Q
def ada (t:TT):TT:=fun σ H Q=>t σ H fun c H1=>Q (!c) H1
theorem pw_and1 (ha:PT X a tA):PW X (.BoolOp .And [a] pos) tA:=by
 intro wh pins s σ H Q I h;refine isTrue_and (aw (ha pins s σ H Q I h) fun c s1 e=>?_);cases c with
 |true=>exact isTrue_and_nil e
 |false=>exact e
theorem pw_or1 (ha:PT X a tA):PW X (.BoolOp .Or [a] pos) tA:=by
 intro wh pins s σ H Q I h;refine isTrue_or (aw (ha pins s σ H Q I h) fun c s1 e=>?_);cases c with
 |false=>exact isTrue_or_nil e
 |true=>exact e
theorem pw_and (ha:PT X a tA) (hb:PW X (.BoolOp .And (b::rest) pos) BN):PW X (.BoolOp .And (a::b::rest) pos) (Pw tA BN):=by
 intro wh pins s σ H Q I h;refine isTrue_and (aw (ha pins s σ H _ I h) fun c s1 ⟨H1,I1,q1⟩=>?_);cases c with
 |true=>exact hb wh pins s1 σ H1 Q I1 q1
 |false=>exact⟨H1,I1,q1⟩
theorem pw_or (ha:PT X a tA) (hb:PW X (.BoolOp .Or (b::rest) pos) BN):PW X (.BoolOp .Or (a::b::rest) pos) (Iy tA BN):=by
 intro wh pins s σ H Q I h;refine isTrue_or (aw (ha pins s σ H _ I h) fun c s1 ⟨H1,I1,q1⟩=>?_);cases c with
 |true=>exact⟨H1,I1,q1⟩
 |false=>exact hb wh pins s1 σ H1 Q I1 q1
theorem pB (ha:PT X a tA):PT X (.UnaryOp .Not a pos) (ada tA):=by
 intro pins s σ H Q I h;exact isTrue_not (ha pins s σ H (fun c H1=>Q (!c) H1) I h)
def abG (ta tb:TE):TE:=fun σ H Q=>ta σ H fun x H1=>∃c,x = .bl c/\if c=true then tb σ H1 Q else Q (.bl false) H1
theorem Ov {op}{t:TE} (h:PE X a t):PE X (.BoolOp op [a] pos) t:=fun pins s σ H Q I hw=>BoolOp_one (h pins s σ H Q I hw)
theorem Ow (ha:PE X a ta) (hb:PE X (.BoolOp .And (b::rest) pos) tb):PE X (.BoolOp .And (a::b::rest) pos) (abG ta tb):=by
 intro pins s σ H Q I h;refine BoolOp_and (aw (ha pins s σ H _ I h) fun v s1 ⟨x,H1,I1,r1,q1⟩=>?_);obtain⟨c,rfl,q1⟩:=q1;cases r1
 refine nB ?_;cases c with
 |true=>exact hb pins s1 σ H1 Q I1 q1
 |false=>exact⟨.bl false,H1,I1,rfl,q1⟩
def tIf (t:TT) (ta tb:TE):TE:=fun σ H Q=>t σ H fun c H1=>if c=true then ta σ H1 Q else tb σ H1 Q
theorem Yy (hc:PT X c tA) (ha:PE X a ta) (hb:PE X b tb):PE X (.IfExp c a b pos) (tIf tA ta tb):=by
 intro pins s σ H Q I h;refine wpAny_IfExp (aw (hc pins s σ H _ I h) fun d s1 ⟨H1,I1,q1⟩=>?_);cases d with
 |true=>exact ha pins s1 σ H1 Q I1 q1
 |false=>exact hb pins s1 σ H1 Q I1 q1
end
def ak (K:PySem.W.Frag) (H:Hp) (a:Addr) (xs:List V):Prop:=
 Rd H a (.lst xs) \/
  ∃ (o:Obj) (its:Array Value) (n:Nat),K.lookup a=some o/\o.cls = .type "list" /\ o.dict=none/\o.data = .seq its n/\its.size<=sizeLine/\Vals xs its.toList
def aE (K:PySem.W.Frag) (H:Hp) (a:Addr) (xs:List V):Prop:=
 Rd H a (.tup xs) \/
  ∃ (o:Obj) (its:Array Value) (n:Nat),K.lookup a=some o/\o.cls = .type "tuple" /\ o.data = .seq its n/\its.size<=sizeLine/\Vals xs its.toList
def adb:Value->Option V
 |.none=>some .aF
 |.bool b=>some (.bl b)
 |.int i _=>some (.int i)
 |.str x _=>some (.str x)
 |.bytes b _=>some (.i4 b)
 |.float b _=>some (.i5 b)
 |.ref a=>some (.ref a)
 |.type n=>some (.ty n)
 |_=>none
theorem RelV.abs {x:V} (r:RelV x u):adb u=some x:=by
 cases x with
 |aF=>cases r;rfl
 |bl _=>cases r;rfl
 |int _=>obtain⟨t,rfl⟩:=r;rfl
 |str _=>obtain⟨t,rfl⟩:=r;rfl
 |i4 _=>obtain⟨t,rfl⟩:=r;rfl
 |i5 _=>obtain⟨t,rfl⟩:=r;rfl
 |ref _=>cases r;rfl
 |ty _=>cases r;rfl
theorem RelV.inj {x:V} (r:RelV x u) (q:RelV y u):x=y:=gA (r.abs.symm.trans q.abs)
theorem Vals.inj:∀ {xs ys:List V}{us:List Value},Vals xs us->Vals ys us->xs=ys
 |_,_,_,.nil,.nil=>rfl
 |_,_,_,.cons r t,.cons r' t'=>by rw[r.inj r',Vals.inj t t']
theorem ak.of (h:H a=some (.lst xs)):ak K H a xs:= .inl (.inl h)
theorem aE.of (h:H a=some (.tup xs)):aE K H a xs:= .inl (.inl h)
theorem Inv.list (I:Inv X pins σ H s) (h:ak X.K H a xs):∃its:List Value,Vals xs its/\PlainL s.heap a its.toArray/\xs.length<=sizeLine:=by
 rcases h with h|⟨o,its,n,hk,hc,hd,hs,hz,r⟩
 ·obtain⟨z,its,n,r,e⟩:=h.ok I.au
  exact⟨its,r,⟨_,n,e,rfl,rfl,rfl⟩,z⟩
 ·refine⟨its.toList,r,⟨o,n,I.bX a o hk,hc,hd,by simpa using hs⟩,?_⟩
  have e:=r.length;simp only[jj]at e;omega
theorem Inv.tuple (I:Inv X pins σ H s) (h:aE X.K H a xs):∃its:List Value,Vals xs its/\IsTup s.heap a its.toArray/\xs.length<=sizeLine:=by
 rcases h with h|⟨o,its,n,hk,hc,hs,hz,r⟩
 ·obtain⟨z,its,r,p⟩:=h.ok I.au
  exact⟨its,r,p.is,z⟩
 ·refine⟨its.toList,r,⟨o,I.bX a o hk,hc,n,by simpa using hs⟩,?_⟩
  have e:=r.length;simp only[jj]at e;omega
theorem Inv.M5 (I:Inv X pins σ H s) (h:ak X.K H a xs) (h':ak X.K H a ys):xs=ys:=by
 obtain⟨its,r,⟨o,n,e,_,_,d⟩,_⟩:=I.list h;obtain⟨its',r',⟨o',n',e',_,_,d'⟩,_⟩:=I.list h';rw[e]at e';cases e';rw[d]at d';injection d' with d1 _;have:its=its':=by simpa using eU Array.toList d1
 subst this;exact r.inj r'
theorem Inv.XH (I:Inv X pins σ H s) (h:aE X.K H a xs) (h':aE X.K H a ys):xs=ys:=by
 obtain⟨its,r,⟨o,e,_,n,d⟩,_⟩:=I.tuple h;obtain⟨its',r',⟨o',e',_,n',d'⟩,_⟩:=I.tuple h';rw[e]at e';cases e';rw[d]at d';injection d' with d1 _;have:its=its':=by simpa using eU Array.toList d1
 subst this;exact r.inj r'
abbrev Cx.mz (X:Cx) (E:Value->Shared->Prop):Cx:={ X with xe:=E }
abbrev Cx.uG (X:Cx):Cx:=X.mz fun _ _=>False
theorem Cx.Ok.mz (ok:X.Ok) (E:Value->Shared->Prop):(X.mz E).Ok:=
 ⟨ok.mod,ok.kind,ok.glob,ok.blt,ok.above,ok.inj,ok.has,ok.pU,ok.hd,ok.frames,ok.rV,ok.om,ok.bs,ok.lH,ok.pK,ok.nX,ok.iB,ok.mI⟩
theorem Cx.Ok.pC (ok:(X.mz E).Ok):X.Ok:=
 ⟨ok.mod,ok.kind,ok.glob,ok.blt,ok.above,ok.inj,ok.has,ok.pU,ok.hd,ok.frames,ok.rV,ok.om,ok.bs,ok.lH,ok.pK,ok.nX,ok.iB,ok.mI⟩
theorem Inv.mz (I:Inv X pins σ H s) (E:Value->Shared->Prop):Inv (X.mz E) pins σ H s:=⟨I.ok.mz E,I.os,I.bare,I.base,I.loc,I.cell,I.free,I.gN,I.pin,I.au,I.len⟩
theorem Inv.pC (I:Inv (X.mz E) pins σ H s):Inv X pins σ H s:=⟨I.ok.pC,I.os,I.bare,I.base,I.loc,I.cell,I.free,I.gN,I.pin,I.au,I.len⟩
theorem SP.pC {D:Ends}{f:Flow} (h:SP (X.mz E) pins D f s'):SP X pins D f s':=by
 cases f with
 |next=>obtain⟨aK,H',I,q⟩:=h;exact⟨aK,H',I.pC,q⟩
 |brk=>obtain⟨aK,H',I,q⟩:=h;exact⟨aK,H',I.pC,q⟩
 |cont=>obtain⟨aK,H',I,q⟩:=h;exact⟨aK,H',I.pC,q⟩
 |ret u=>obtain⟨v,aK,H',I,r,q⟩:=h;exact⟨v,aK,H',I.pC,r,q⟩
theorem ff.uG {st:List Stmt}{t:TS} (h:ff X.uG st t):ff X st t:=fun pins s σ H D I hw =>
 lZ (h pins s σ H D (I.mz _) hw) (fun _ _ q=>q.pC) fun _ _ z=>False.elim z
section
variable{rest:List Stmt}{t u:TS}
def OR:TS:=fun D σ H=>D.nx σ H
def Px (t u:TS):TS:=fun D σ H=>t { D with nx:=u D } σ H
theorem cO:ff X [] OR:=fun _ _ σ H _ I h=>za ⟨σ,H,I,h⟩
theorem aA (h1:PS X st t) (h2:ff X rest u):ff X (st::rest) (Px t u):=by
 intro pins s σ H D I h;refine wpAny_execs_cons (aw (h1 pins s σ H { D with nx:=u D } I h) fun f s1 q=>?_);cases f with
 |next =>
  obtain⟨aK,H',I',q⟩:=q;exact h2 pins s1 aK H' D I' q
 |ret v=>exact q
 |brk=>exact q
 |cont=>exact q
theorem aG (h1:PS X st t):ff X [st] t:=by
 intro pins s σ H D I h;refine wpAny_execs_cons (aw (h1 pins s σ H D I h) fun f s1 q=>?_);cases f with
 |next=>exact za q
 |ret v=>exact q
 |brk=>exact q
 |cont=>exact q
theorem Inv.quiet (I:Inv X pins σ H s):interactive X.env=false:=by simp[interactive,I.ok.kind]
def abH (te:TE):TS:=fun D σ H=>te σ H fun _ H1=>D.nx σ H1
theorem gG (he:PE X e te) (hs:swapsWith e none pos.line X.env=pure false:=by rfl):PS X (.Expr e pos) (abH te):=by
 intro pins s σ H D I h;exact wpAny_Expr_any (aw (he pins s σ H _ I h) fun v s1 ⟨x,H1,I1,r1,q1⟩=>⟨σ,H1,I1,q1⟩) I.quiet hs
def ade (te:TE):TS:=fun D σ H=>te σ H D.rt
theorem bz (he:PE X e te):PS X (.Return (some e) pos) (ade te):=by
 intro pins s σ H D I h;exact wpAny_Return_some (aw (he pins s σ H _ I h) fun v s1 ⟨x,H1,I1,r1,q1⟩=>⟨x,σ,H1,I1,r1,q1⟩)
def abI:TS:=fun D _ H=>D.rt .aF H
theorem ZE:PS X (.Return none pos) abI:=fun _ _ σ H _ I h=>wpAny_Return_none ⟨.aF,σ,H,I,rfl,h⟩
def FJ (c:TT) (t u:TS):TS:=fun D σ H=>c σ H fun b H1=>if b=true then t D σ H1 else u D σ H1
theorem cf {a b:List Stmt}{tc:TT} (hc:PT X c tc) (ha:ff X a t) (hb:ff X b u):PS X (.If c a b pos) (FJ tc t u):=by
 intro pins s σ H D I h;refine wpAny_If (aw (hc pins s σ H _ I h) fun d s1 ⟨H1,I1,q1⟩=>?_);cases d with
 |true=>exact ha pins s1 σ H1 D I1 q1
 |false=>exact hb pins s1 σ H1 D I1 q1
def Ox:TS:=fun _ _ _=>False
theorem Yz:PS X st Ox:=fun _ _ _ _ _ _ h=>h.elim
theorem zx {sts:List Stmt}:ff X sts Ox:=fun _ _ _ _ _ _ h=>h.elim
end
abbrev TG:=V->St->Hp->(St->Hp->Prop)->Prop
abbrev mK:=List V->St->Hp->(St->Hp->Prop)->Prop
def PG (X:Cx) (target:Expr) (t:TG):Prop:=
 ∀ (pins:List (Addr×Obj)) (s:Shared) (σ:St) (H:Hp) (v:V) (u:Value) (Q:St->Hp->Prop),Inv X pins σ H s->RelV v u->t v σ H Q ->
  wpAny (model X.prog X.w) X.A (assign target X.env u) (fun _ s'=>∃aK H',Inv X pins aK H' s'/\Q aK H') X.xe s
def uH (X:Cx) (ts:List Expr) (t:mK):Prop:=
 ∀ (pins:List (Addr×Obj)) (s:Shared) (σ:St) (H:Hp) (vs:List V) (us:List Value) (Q:St->Hp->Prop),Inv X pins σ H s->Vals vs us->t vs σ H Q ->
  wpAny (model X.prog X.w) X.A (assignInOrder ((assignEach ts X.env).map (·.2)) us) (fun _ s'=>∃aK H',Inv X pins aK H' s'/\Q aK H') X.xe s
abbrev FK:=V->V->V->Hp->(Hp->Prop)->Prop
def Py (X:Cx) (t:FK):Prop:=
 ∀ (pins:List (Addr×Obj)) (s:Shared) (σ:St) (H:Hp) (o i v:V) (ov iv u:Value) (Q:Hp->Prop),Inv X pins σ H s->RelV o ov->RelV i iv->RelV v u->t o i v H Q ->
  wpAny (model X.prog X.w) X.A (setItem ov iv u) (fun _ s'=>∃H',Inv X pins σ H' s'/\Q H') X.xe s
def rq (i:Nat):TG:=fun v σ H Q=>Q (σ.set i (some v)) H
theorem bp (hN:X.N.Nodup) (hi:X.N[i]? = some x) (hx:Loc X.env.scope x) (hf:X.fn x=true\/X.env.scope.names.lookup x=some .local:=by first|exact .inl rfl|exact .inr rfl|assumption):PG X (.Name x pos) (rq i):=by
 intro pins s σ H v u Q I r h;exact wpAny_assign_Name (vJ I hN hi hx r (fun s' I'=>⟨_,H,I',h⟩) hf)
def adf:mK:=fun vs σ H Q=>vs = []/\Q σ H
def abJ (t:TG) (u:mK):mK:=fun vs σ H Q=>∃v r,vs=v::r/\t v σ H fun aK H'=>u r aK H' Q
theorem lj:uH X [] adf:=by
 intro pins s σ H vs us Q I r h;obtain⟨e,h⟩:=h;subst e;cases r
 exact assignInOrder_nil ⟨σ,H,I,h⟩
theorem eY {t:TG}{u:mK} (h1:PG X e t) (h2:uH X es u)
  (hs:(assignEach (e::es) X.env).map (·.2)=assign e X.env::(assignEach es X.env).map (·.2):=by rfl):uH X (e::es) (abJ t u):=by
 intro pins s σ H vs us Q I r h;obtain⟨v,vr,e1,h⟩:=h;subst e1;cases r with
 |cons r rr =>
  rw[hs];refine Va (aw (h1 pins s σ H _ _ _ I r h) fun _ s1 ⟨uI,H1,I1,q1⟩=>?_);exact h2 pins s1 uI H1 _ _ Q I1 rr q1
def Pz (K:PySem.W.Frag) (n:Nat) (t:mK):TG:=fun v σ H Q=>∃a xs,v = .ref a/\aE K H a xs/\xs.length=n/\t xs σ H Q
theorem pD {k:Nat}{t:mK} (hc:X.calm=true) (h:uH X es t)
  (hn:(assignEach es X.env).length=n:=by rfl) (fj:(assignEach es X.env).findIdx? (·.1)=none:=by rfl):PG X (.Tuple es k pos) (Pz X.K n t):=by
 intro pins s σ H v u Q I r hw;obtain⟨a,xs,e1,hq,hl,hw⟩:=hw;subst e1;cases r
 obtain⟨its,rv,ht,hz⟩:=I.tuple hq;refine assign_Tuple_tuple (I.ok.hd hc) ht (by simp[hn,<-hl,rv.length]) fj fun h' hx=>?_
 have I1:Inv X pins σ H { s with heap:=h' }:=I.kept (t':=s.toks) fun b o e=>hx b o (bx (a9 e)) e;exact h pins _ σ H xs _ Q I1 (by simpa using rv) hw
def adg (to ti:TE) (t:FK):TG:=fun v σ H Q=>to σ H fun o H1=>ti σ H1 fun i H2=>t o i v H2 fun H3=>Q σ H3
theorem Oy {o i:Expr}{to ti:TE}{t:FK} (ho:PE X o to) (hi:PE X i ti) (hs:Py X t)
  (ha:∀v,assign (.Subscript o i pos) X.env v=(do
   let ov <- holding [v] (eval o X.env)
   let iv <- holding [v,ov] (eval i X.env)
   standAt pos
   holding [v,ov,iv] (setItem ov iv v)
   release [v,ov,iv] []):=by intro _;rfl):PG X (.Subscript o i pos) (adg to ti t):=by
 intro pins s σ H v u Q I r h;rw[ha];refine aa (eI (aw (ho pins s σ H _ I h) fun ov s1 ⟨x,H1,I1,r1,q1⟩=>?_));refine aa (eI (aw (hi pins s1 σ H1 _ I1 q1) fun iv s2 ⟨y,H2,I2,r2,q2⟩=>?_));refine aa (nC (aa (eI (aw (hs pins s2 σ H2 x y v ov iv u _ I2 r1 r2 r q2) fun _ s3 ⟨H3,I3,q3⟩=>?_))));exact wpAny_release ⟨σ,H3,I3,q3⟩
def FO (te:TE) (g:TG):TS:=fun D σ H=>te σ H fun x H1=>g x σ H1 D.nx
theorem qY {g:TG} (he:PE X e te) (hg:PG X tg g) (hs:swapsWithSole [tg] e pos.line X.env=pure false:=by rfl) (hw:swappedStores [tg] e X.env=pure none:=by rfl)
  (h1:(assignEach [tg] X.env).map (·.2) = [assign tg X.env]:=by rfl):PS X (.Assign [tg] e pos) (FO te g):=by
 intro pins s σ H D I h;refine wpAny_Assign_stores (aw (he pins s σ H _ I h) fun v s1 ⟨x,H1,I1,r1,q1⟩=>?_) hs hw;rw[h1];exact aw (hg pins s1 σ H1 x v _ I1 r1 q1) fun _ s2 q=>q
theorem ba (hN:X.N.Nodup) (hi:X.N[i]? = some x) (hx:Loc X.env.scope x) (he:PE X e te) (hs:swapsWith e (some (.Name x pos')) pos.line X.env=pure false:=by rfl) (hf:X.fn x=true\/X.env.scope.names.lookup x=some .local:=by first|exact .inl rfl|exact .inr rfl|assumption) :
  PS X (.Assign [.Name x pos'] e pos) (FO te (rq i)):=by
 intro pins s σ H D I h;refine wpAny_Assign_Name (aw (he pins s σ H _ I h) fun v s1 ⟨y,H1,I1,r1,q1⟩=>?_) hs;exact vJ I1 hN hi hx r1 (fun s2 I2=>⟨_,H1,I2,q1⟩) hf
def adh (i j:Nat) (ta:TA):TS:=fun D σ H=>ta σ H fun vs H1=>∃v w,vs = [v,w]/\D.nx ((σ.set i (some v)).set j (some w)) H1
theorem aaR {y:Str}{a b:Expr}{ta:TA}{px py pt:Pos}{kt k2 Iz} (hc:X.calm=true) (hN:X.N.Nodup) (hi:X.N[i]? = some x) (hj:X.N[j]? = some y) (gQ:i≠j)
  (hx:X.env.scope.names.lookup x=some .local) (hy:X.env.scope.names.lookup y=some .local) (ha:PA X [a,b] ta)
  (hw:swappedStores [.Tuple [.Name x px,.Name y py] kt pt] (.Tuple [a,b] k2 Iz) X.env=pure (some [x,y]))
  (hs:swapsWithSole [.Tuple [.Name x px,.Name y py] kt pt] (.Tuple [a,b] k2 Iz) pos.line X.env=pure false:=by rfl) :
  PS X (.Assign [.Tuple [.Name x px,.Name y py] kt pt] (.Tuple [a,b] k2 Iz) pos) (adh i j ta):=by
 intro pins s σ H D I h;rw[exec_Assign_arm];refine aa (nC ?_);rw[hs];refine aa (ai ?_);rw[aj (by decide)]
 refine aa (Tuple_ (aw (ha _ pins s σ H _ I h) fun us s1 ⟨vs,H1,I1,r1,q1⟩=>?_));obtain⟨v,w,e1,q1⟩:=q1;subst e1;obtain⟨u1,u2,rfl,rv,iJ⟩:∃u1 u2,us = [u1,u2]/\RelV v u1/\RelV w u2:=by
  cases r1 with
  |cons p q =>
   cases q with
   |cons p' q' =>
    cases q'
    exact⟨_,_,rfl,p,p'⟩
 refine iP ?_ (by show 2<=sizeLine;decide)
 have I2:Inv X pins σ H1 { s1 with heap:=s1.heap.push { cls:= .type "tuple",data:= .seq [u1,u2].toArray } }:=I1.kept (t':=s1.toks) fun b o e=>a8 _ e;rw[hw];refine aa (ai ?_);show wpAny (model X.prog X.w) X.A (do rule "assign.swapped-stores"; let items <- unpackItems (.ref s1.heap.objs.size) 2 none;assignInOrder [fun v=>bindName X.env y v,fun v=>bindName X.env x v] items.reverse;pure Flow.next) _ _ _;refine aa (oU (aa (unpackItems_tuple (items:= #[u1,u2]) (I.ok.hd hc) (IsTup.new s1.heap _) fun h' di=>?_)));have I3:=I2.kept (h':=h') (t':=s1.toks) fun b o e=>di b o (bx (a9 e)) e;show wpAny _ _ (assignInOrder [fun v=>bindName X.env y v,fun v=>bindName X.env x v] [u2,u1] >>= fun _=>pure Flow.next) _ _ _;refine aa (Va (wpAny_bindName (vJ I3 hN hj (.inl hy) iJ (fun s2 I4=>?_) (.inr hy))));refine Va (wpAny_bindName (vJ I4 hN hi (.inl hx) rv (fun s3 I5=>assignInOrder_nil (ai ?_)) (.inr hx)));rw[List.set_comm _ _ (aN gQ)]at I5;exact⟨_,H1,I5,q1⟩
def aaS (c:TT) (tb:TS):TS:=fun D σ H=>∃W:Nat->St->Hp->Prop,(∃m,W m σ H) /\ ∀m σ H,W m σ H ->
 c σ H fun b H1=>if b=true then ∃N:St->Hp->Prop,(∀aK H',N aK H' -> ∃m',m' < m/\W m' aK H')/\tb { D with nx:=N,ct:=N,bk:=D.nx } σ H1 else D.nx σ H1
theorem vK {tc:TT} (hp:PassesOwn (model X.prog X.w) X.A X.env X.xe) (hc:PT X c tc) (hb:ff X body tb):PS X (.While c body [] pos) (aaS tc tb):=by
 intro pins s σ H D I h;obtain⟨W,⟨m0,w0⟩,turn⟩:=h;refine wpAny_While (codeAny_whileLoop (fun n s'=>∃aK H',Inv X pins aK H' s'/\W n aK H') ?_ m0 ⟨σ,H,I,w0⟩);rintro n s1 ⟨uI,H1,I1,w1⟩;refine vk hp (aw (hc pins s1 uI H1 _ I1 (turn n uI H1 w1)) fun b s2 ⟨H2,I2,q2⟩=>?_);cases b with
 |true =>
  obtain⟨N,hN,q2⟩:=q2;rw[ax rfl];refine vk hp (aw (hb pins s2 uI H2 _ I2 q2) fun f s3 q3=>?_);cases f with
  |next =>
   obtain⟨lJ,H3,I3,n3⟩:=q3;obtain⟨m',hm,w3⟩:=hN lJ H3 n3;exact⟨m',hm,lJ,H3,I3,w3⟩
  |cont =>
   obtain⟨lJ,H3,I3,n3⟩:=q3;obtain⟨m',hm,w3⟩:=hN lJ H3 n3;exact⟨m',hm,lJ,H3,I3,w3⟩
  |brk=>exact q3
  |ret v=>exact q3
 |false =>
  rw[aj cw];exact za ⟨uI,H2,I2,q2⟩
structure It where
 go:Nat->Hp->Prop
 pW:Nat->Hp->V->Hp->Prop
 stop:Nat->Hp->Prop
def iC (X:Cx) (pins:List (Addr×Obj)) (H:Hp) (b:Addr):Prop:=
 H b=none/\b≠X.env.locals/\b ∉ X.fs/\(b∈X.ex\/X.eG.heap.objs.size<=b)/\(∀x c,X.env.cells.lookup x=some c->c≠b) /\ ∀p∈X.pn++pins,p.1≠b
theorem Inv.mE (I:Inv X pins σ H s) (hb:s.heap.objs.size<=b) (hn:H' b=none):iC X pins H' b:=by
 refine⟨hn,oV (g7 I.lt hb),I.ac8 hb,.inr (fw I.sz hb),fun x c e z=>?_,fun p hp z=>?_⟩
 ·obtain⟨v,q⟩:=I.cell x c e
  exact absurd (g7 q.lt (by rw[z];exact hb)) (qF _)
 ·exact absurd (g7 (a9 (I.pin p hp).1) (by rw[z];exact hb)) (qF _)
structure Turn (P:Program) (w:World) (K:PySem.W.Frag) (tg:Expr) (J:It) (fp:List Addr) (it:Addr) (tn:Nat->Heap->Prop):Prop where
 mem:it∈fp
 obj:∀i h,tn i h -> ∀b∈fp,∃o,h.get? b=some o /\ ∀v,o.data ≠ .cell v
 keep:∀i h h',tn i h->(∀b∈fp,∀o,h.get? b=some o->h'.get? b=some o)->tn i h'
 item:∀ (X:Cx),X.prog=P->X.w=w->X.K=K->X.calm=true -> ∀ (i:Nat) (pins:List (Addr×Obj)) (s:Shared) (σ:St) (H:Hp) (E:Value->Shared->Prop),Inv X pins σ H s->(∀b∈fp,iC X pins H b)->tn i s.heap->J.go i H ->
  wpAny (model P w) X.A (pyNext (.ref it)) (fun r s1=>∃u,r=some u /\
   wpAny (model P w) X.A (letOwnedTupleGo tg (.ref it) u) (fun _ s2=>∃x H',Inv X pins σ H' s2/\RelV x u/\J.pW i H x H'/\tn (i+1) s2.heap /\ ∀b∈fp,H' b=none) E s1) E s
 done:∀ (X:Cx),X.prog=P->X.w=w->X.K=K->X.calm=true -> ∀ (i:Nat) (pins:List (Addr×Obj)) (s:Shared) (σ:St) (H:Hp) (E:Value->Shared->Prop),Inv X pins σ H s->(∀b∈fp,iC X pins H b)->tn i s.heap->J.stop i H ->
  wpAny (model P w) X.A (pyNext (.ref it)) (fun r s1=>r=none/\Inv X pins σ H s1) E s
 self:∀ (A:Around) (i:Nat) (s:Shared) (Q:Value->Shared->Prop) (E:Value->Shared->Prop),tn i s.heap->Q (.ref it) s->wpAny (model P w) A (pyIter (.ref it)) Q E s
abbrev TI:=St->Hp->(It->Hp->Prop)->Prop
def IA (X:Cx) (pins:List (Addr×Obj)) (σ:St) (tg:Expr) (R:It->Hp->Prop) (xD:Value) (s2:Shared):Prop:=
 ∃ (it:Addr) (fp:List Addr) (tn:Nat->Heap->Prop) (J:It) (H':Hp),xD = .ref it/\Inv X pins σ H' s2/\Turn X.prog X.w X.K tg J fp it tn/\tn 0 s2.heap/\(∀b∈fp,iC X pins H' b)/\R J H'
def PI (X:Cx) (tg iter:Expr) (wi:TI):Prop:=
 ∀ (pins:List (Addr×Obj)) (s:Shared) (σ:St) (H:Hp) (R:It->Hp->Prop),Inv X pins σ H s->wi σ H R ->
  wpAny (model X.prog X.w) X.A (eval iter X.env) (fun v s1=>wpAny (model X.prog X.w) X.A (pyIter v) (IA X pins σ tg R) X.xe s1) X.xe s
theorem An {M:Model}{n:String}{vs:Array Value}{Q:Unit->Shared->Prop} (ho:s.heap.get? it=some o) (hc:o.cls = .type n) (hd:o.data = .fields vs)
  (hn : ["enumerate","zip","dict_itemiterator","dict_reverseitemiterator","odict_iterator","itertools.zip_longest","itertools.pairwise"].contains n=false) (hQ:Q () s):wpAny M A (letOwnedTupleGo tg (.ref it) u) Q E s:=by
 unfold letOwnedTupleGo;cases tg <;> first
  |exact ai hQ
  |(cases u <;> first
    |exact ai hQ
    |(refine aa (zb ho ?_);rw[hc,hd];show wpAny M A (if (["enumerate","zip","dict_itemiterator","dict_reverseitemiterator","odict_iterator","itertools.zip_longest","itertools.pairwise"].contains n && vs[0]? == some (rawInt _))=true then _ else _) Q E s;rw[aj (by intro h;rw[hn,Bool.false_and]at h;cases h)];exact ai hQ))
def rW (K:PySem.W.Frag) (a:Addr):It:=
 ⟨fun i H=>∃xs x,ak K H a xs/\xs[i]? = some x,fun i H x H'=>H'=H /\ ∀xs,ak K H a xs->xs[i]? = some x,fun i H=>∃xs,ak K H a xs/\xs.length<=i⟩
def ou (K:PySem.W.Frag) (a:Addr):It:=
 ⟨fun i H=>∃xs x,aE K H a xs/\xs[i]? = some x,fun i H x H'=>H'=H /\ ∀xs,aE K H a xs->xs[i]? = some x,fun i H=>∃xs,aE K H a xs/\xs.length<=i⟩
def rX (lo:Int) (n:Nat):It:=⟨fun i _=>i < n,fun i H x H'=>H'=H/\x = .int (lo+i),fun i _=>n<=i⟩
theorem XI (a it:Addr):Turn P w K tg (rW K a) [it] it (fun i h=>h.IsListIter it a i) where
 mem:=by simp
 obj:=fun i h st b hb=>by
  have e:b=it:=by simpa using hb
  subst e;obtain⟨o,e,c,d⟩:=st;exact⟨o,e,fun v z=>by rw[d]at z;cases z⟩
 keep:=fun i h h' st k=>st.at fun o e=>k it (by simp) o e
 item:=by
  intro X hP hw hK hc i pins s σ H E I hf st hg;subst hP hw hK;obtain⟨xs,x,hq,hx⟩:=hg;obtain⟨its,rv,p,hz⟩:=I.list hq;obtain⟨u,hu,ru⟩:=rv.get hx;obtain⟨f0,f1,f2,f3,f4,f5⟩:=hf it (by simp)
  refine Vb st p.isList (x:=u) (by simpa using hu) fun h' i6 sb=>?_
  have I1:Inv X pins σ H { s with heap:=h' }:=I.turned (t':=s.toks) (fun b o hb e=>(sb.2 b hb).trans e) f0 f1 f3 f4 f5;obtain⟨o,e,c,d⟩:=id i6;exact⟨u,rfl,An (s:={ s with heap:=h' }) e c d (by decide) ⟨x,H,I1,ru,⟨rfl,fun ys hy=>by rw[I.M5 hy hq];exact hx⟩,i6,fun b hb=>(hf b hb).1⟩⟩
 done:=by
  intro X hP hw hK hc i pins s σ H E I hf st hg;subst hP hw hK;obtain⟨xs,hq,hx⟩:=hg;obtain⟨its,rv,p,hz⟩:=I.list hq;obtain⟨f0,f1,f2,f3,f4,f5⟩:=hf it (by simp)
  have hl:=rv.length;exact Vc (I.ok.hd hc) st p.isList (by simp;omega) fun h' eb=>⟨rfl,I.turned (t':=s.toks) (fun b o hb e=>eb b o hb e) f0 f1 f3 f4 f5⟩
 self:=fun _ _ _ _ _ st h=>wpAny_pyIter_listiter st h
theorem W4 (a it:Addr):Turn P w K tg (ou K a) [it] it (fun i h=>h.IsTupleIter it a i) where
 mem:=by simp
 obj:=fun i h st b hb=>by
  have e:b=it:=by simpa using hb
  subst e;obtain⟨o,e,c,d⟩:=st;exact⟨o,e,fun v z=>by rw[d]at z;cases z⟩
 keep:=fun i h h' st k=>st.at fun o e=>k it (by simp) o e
 item:=by
  intro X hP hw hK hc i pins s σ H E I hf st hg;subst hP hw hK;obtain⟨xs,x,hq,hx⟩:=hg;obtain⟨its,rv,p,hz⟩:=I.tuple hq;obtain⟨u,hu,ru⟩:=rv.get hx;obtain⟨f0,f1,f2,f3,f4,f5⟩:=hf it (by simp)
  refine wpAny_pyNext_tuple_item st (show s.heap.IsTuple a its.toArray from p) (x:=u) (by simpa using hu) fun h' i6 sb=>?_
  have I1:Inv X pins σ H { s with heap:=h' }:=I.turned (t':=s.toks) (fun b o hb e=>(sb.2 b hb).trans e) f0 f1 f3 f4 f5;obtain⟨o,e,c,d⟩:=id i6;exact⟨u,rfl,An (s:={ s with heap:=h' }) e c d (by decide) ⟨x,H,I1,ru,⟨rfl,fun ys hy=>by rw[I.XH hy hq];exact hx⟩,i6,fun b hb=>(hf b hb).1⟩⟩
 done:=by
  intro X hP hw hK hc i pins s σ H E I hf st hg;subst hP hw hK;obtain⟨xs,hq,hx⟩:=hg;obtain⟨its,rv,p,hz⟩:=I.tuple hq;obtain⟨f0,f1,f2,f3,f4,f5⟩:=hf it (by simp)
  have hl:=rv.length;exact wpAny_pyNext_tuple_end (I.ok.hd hc) st (show s.heap.IsTuple a its.toArray from p) (by simp;omega) fun h' eb=>⟨rfl,I.turned (t':=s.toks) (fun b o hb e=>eb b o hb e) f0 f1 f3 f4 f5⟩
 self:=fun _ _ _ _ _ st h=>wpAny_pyIter_tupleiter st h
theorem W5 (it:Addr) (lo:Int) (n:Nat):Turn P w K tg (rX lo n) [it] it (fun i h=>IsRangeIter h it (lo+(i:Nat) * 1) ((n:Int) - (i:Nat)) 1) where
 mem:=by simp
 obj:=fun i h st b hb=>by
  have e:b=it:=by simpa using hb
  subst e;exact⟨_,st,fun v z=>by
   have z':Data.fields _=Data.cell v:=z;cases z'⟩
 keep:=fun i h h' st k=>k it (by simp) _ st
 item:=by
  intro X hP hw hK hc i pins s σ H E I hf st hg;subst hP hw hK;obtain⟨f0,f1,f2,f3,f4,f5⟩:=hf it (by simp)
  have W:=Walks.range (prog:=X.prog) (w:=X.w) (I.ok.hd hc) it lo 1 n;refine W.item i s _ _ hg st fun v h' tk hv i6 kk=>?_;obtain⟨t,rfl⟩:=hv;have I1:Inv X pins σ H { s with heap:=h',toks:=tk }:=I.turned (fun b o hb e=>kk b o (by simpa using hb) e) f0 f1 f3 f4 f5
  refine⟨_,rfl,An (s:={ s with heap:=h',toks:=tk }) (n:= "range_iterator") i6 rfl rfl (by decide) ⟨.int (lo+i),H,I1,⟨t,?_⟩,⟨rfl,rfl⟩,i6,fun b hb=>(hf b hb).1⟩⟩
  rw[Int.mul_one]
 done:=by
  intro X hP hw hK hc i pins s σ H E I hf st hg;subst hP hw hK;obtain⟨f0,f1,f2,f3,f4,f5⟩:=hf it (by simp)
  exact wpAny_pyNext_range_end (I.ok.hd hc) st (by have:n<=i:=hg;omega) fun h' eb=>⟨rfl,I.turned (t':=s.toks) (fun b o hb e=>eb b o hb e) f0 f1 f3 f4 f5⟩
 self:=fun _ _ _ _ _ st h=>wpAny_pyIter_rangeiter st h
def OS (K:PySem.W.Frag) (tl:TE):TI:=fun σ H R=>tl σ H fun x H1=>∃a,x = .ref a/\(∃xs,ak K H1 a xs)/\R (rW K a) H1
def PB (K:PySem.W.Frag) (tl:TE):TI:=fun σ H R=>tl σ H fun x H1=>∃a,x = .ref a/\(∃xs,aE K H1 a xs)/\R (ou K a) H1
theorem gB {l:Expr} (hl:PE X l tl):PI X tg l (OS X.K tl):=by
 intro pins s σ H R I h;refine aw (hl pins s σ H _ I h) fun v s1 ⟨x,H1,I1,r1,q1⟩=>?_;obtain⟨a,e,⟨xs,hq⟩,q⟩:=q1;subst e;cases r1
 obtain⟨its,rv,p,hz⟩:=I1.list hq;refine zd p.isList ?_;refine⟨s1.heap.objs.size,[s1.heap.objs.size],_,_,H1,rfl,I1.kept (t':=s1.toks) fun b o e=>a8 _ e,XI a _,⟨_,cp _ rfl,rfl,rfl⟩,fun b hb=>?_,q⟩;have e:b=s1.heap.objs.size:=by simpa using hb
 subst e;exact I1.mE (aP _) (I1.au.fresh (aP _))
theorem t4 {l:Expr} (hl:PE X l tl):PI X tg l (PB X.K tl):=by
 intro pins s σ H R I h;refine aw (hl pins s σ H _ I h) fun v s1 ⟨x,H1,I1,r1,q1⟩=>?_;obtain⟨a,e,⟨xs,hq⟩,q⟩:=q1;subst e;cases r1
 obtain⟨its,rv,p,hz⟩:=I1.tuple hq;refine wpAny_pyIter_tuple (show s1.heap.IsTuple a its.toArray from p) ?_;refine⟨s1.heap.objs.size,[s1.heap.objs.size],_,_,H1,rfl,I1.kept (t':=s1.toks) fun b o e=>a8 _ e,W4 a _,⟨_,cp _ rfl,rfl,rfl⟩,fun b hb=>?_,q⟩;have e:b=s1.heap.objs.size:=by simpa using hb
 subst e;exact I1.mE (aP _) (I1.au.fresh (aP _))
theorem YA {R:It->Hp->Prop}{hi:Int}{t u v:Tok}{tk:Nat} (I:Inv X pins σ H s) (h1 : -(2 ^ 62)<=lo) (h2:lo < 2 ^ 62) (h3 : -(2 ^ 62)<=hi) (h4:hi < 2 ^ 62)
  (q:R (rX lo (hi - lo).toNat) H):wpAny (model X.prog X.w) X.A (pyIter (.ref s.heap.objs.size)) (IA X pins σ tg R) E { s with heap:=s.heap.push { cls:= .type "range",data:= .fields #[.int lo t,.int hi u,.int 1 v] },toks:=tk }:=by
 refine wpAny_pyIter_range (IsRange.new ..) (small_one h1 h2 h3 h4) ?_;have I1:Inv X pins σ H { s with heap:=s.heap.push { cls:= .type "range",data:= .fields #[.int lo t,.int hi u,.int 1 v] },toks:=tk }:=I.kept fun b o e=>a8 _ e;refine⟨(s.heap.push { cls:= .type "range",data:= .fields #[.int lo t,.int hi u,.int 1 v] }).objs.size,[(s.heap.push { cls:= .type "range",data:= .fields #[.int lo t,.int hi u,.int 1 v] }).objs.size],_,_,H,rfl,
  I1.kept (t':=tk) fun b o e=>a8 _ e,W5 _ lo (hi - lo).toNat,?_,fun b hb=>?_,q⟩
 ·have e1:lo+((0:Nat):Int) * 1=lo:=by simp
  have e2:(((hi - lo).toNat:Nat):Int) - ((0:Nat):Int)=Builtin.Range.rangeSize lo hi 1:=by rw[rangeSize_one];split <;> omega
  show IsRangeIter _ _ (lo+((0:Nat):Int) * 1) ((((hi - lo).toNat:Nat):Int) - ((0:Nat):Int)) 1;rw[e1,e2];exact cp _ rfl
 ·have e:b=(s.heap.push { cls:= .type "range",data:= .fields #[.int lo t,.int hi u,.int 1 v] }).objs.size:=by simpa using hb
  subst e;exact I1.mE (aP _) (I1.au.fresh (aP _))
def abK (ta:TA):TI:=fun σ H R=>ta σ H fun vs H1=>∃j:Int,vs = [.int j] /\ -(2 ^ 62)<=j/\j < 2 ^ 62/\R (rX 0 j.toNat) H1
theorem qO {a:Expr}{ta:TA}{p:Pos} (hg:Gl X "range") (hm:X.mg "range" = none) (ha:PA X [a] ta) (hs:starEach [a] X.env = [(false,eval a X.env)]:=by rfl):PI X tg (.Call (.Name "range" p) [a] [] pos) (abK ta):=by
 intro pins s σ H R I h;refine Call_ (vZ I hg hm boot_range (Vd (aw (ha pos pins s σ H _ I h) fun us s1 ⟨vs,H1,I1,r1,q1⟩=>?_) hs rfl));obtain⟨j,e,q1,q2,q⟩:=q1;subst e;cases r1 with
 |cons r rr =>
  cases rr
  obtain⟨t,rfl⟩:=r;exact call_range_1 (YA I1 (by omega) (by omega) q1 q2 (by simpa using q))
def adi (wi:TI) (g:TG) (tb:TS):TS:=fun D σ H=>wi σ H fun J H1=>∃W:Nat->Nat->St->Hp->Prop,(∃m,W 0 m σ H1) /\ ∀i m σ H,W i m σ H ->
 (J.stop i H/\D.nx σ H)\/(J.go i H /\ ∃N:St->Hp->Prop,(∀aK H',N aK H' -> ∃m',m' < m/\W (i+1) m' aK H') /\ ∀x H',J.pW i H x H'->g x σ H' fun ib H2=>tb { D with nx:=N,ct:=N,bk:=D.nx } ib H2)
def t5 (fp:List Addr) (h:Heap):List (Addr×Obj):=fp.filterMap fun b=>(h.get? b).map fun o=>(b,o)
theorem tE (hb:b∈fp) (e:h.get? b=some o):(b,o)∈t5 fp h:=y9.mpr ⟨b,hb,by rw[e];rfl⟩
theorem XJ {p:Addr×Obj} (hp:p∈t5 fp h):p.1∈fp/\h.get? p.1=some p.2:=by
 obtain⟨b,hb,e⟩:=y9.mp hp;cases q:h.get? b with
 |none=>rw[q]at e;cases e
 |some o =>
  rw[q]at e;have e':(b,o)=p:=gA e;subst e';exact⟨hb,q⟩
theorem Inv.pinned (I:Inv X pins σ H s) (hf:∀b∈fp,iC X pins H b) (ho:∀b∈fp,∃o,s.heap.get? b=some o /\ ∀v,o.data ≠ .cell v):Inv X (pins++t5 fp s.heap) σ H s:=
 I.NR fun p hp=>(ee.mp hp).elim (fun z=>I.pin p (fH _ z)) fun z=>by
  obtain⟨hb,e⟩:=XJ z;obtain⟨f0,f1,f2,_⟩:=hf p.1 hb;obtain⟨o,e',d⟩:=ho p.1 hb;rw[e]at e';cases e';exact⟨e,f0,f1,f2,d⟩
theorem Inv.vL {pl:List (Addr×Obj)} (I:Inv X (pins++pl) σ H s):Inv X pins σ H s:=I.NR fun p hp=>I.pin p (fH _ (nu _ hp))
theorem jR {wi:TI}{g:TG} (hp:PassesOwn (model X.prog X.w) X.A X.env X.xe) (hc:X.calm=true) (hi:PI X tg iter wi) (hg:PG X tg g) (hb:ff X body tb)
  (hs:∀x,foldedSetIterable iter X.env x=pure x:=by intro _;rfl):PS X (.For tg iter body [] pos) (adi wi g tb):=by
 intro pins s σ H D I h;refine wpAny_For (aw (hi pins s σ H _ I h) fun v s1 h1=>aw h1 fun xD s2 h2=>?_) hs;obtain⟨it,fp,tn,J,H2,e,I2,T,mO,f2,W,⟨m0,w0⟩,turn⟩:=h2;subst e;have lC:∀ {H':Hp},(∀b∈fp,H' b=none) -> ∀b∈fp,iC X pins H' b:=fun hn b hb=>⟨hn b hb,(f2 b hb).2⟩;refine codeAny_forLoop_any (fun n s'=>∃i aK H',Inv X pins aK H' s'/\tn i s'.heap/\(∀b∈fp,H' b=none)/\W i n aK H') ?_ m0 ⟨0,σ,H2,I2,mO,fun b hb=>(f2 b hb).1,w0⟩;rintro n s3 ⟨i,lJ,H3,I3,lK,RI,w3⟩;rcases turn i n lJ H3 w3 with⟨stop,qn⟩|⟨go,N,hN,step⟩
 ·refine vk hp (aw (T.done X rfl rfl rfl hc i pins s3 lJ H3 X.xe I3 (lC RI) lK stop) fun r s4 ⟨hr,I4⟩=>?_)
  subst hr;exact za ⟨lJ,H3,I4,qn⟩
 ·refine vk hp (aw (T.item X rfl rfl rfl hc i pins s3 lJ H3 X.xe I3 (lC RI) lK go) fun r s4 ⟨u,hr,h4⟩=>?_)
  subst hr;refine vk hp (aw h4 fun _ s5 ⟨x,H5,I5,r5,y5,oz,lL⟩=>?_);have I5':=I5.pinned (lC lL) (T.obj _ _ oz);refine vk hp (aw (hg _ s5 lJ H5 x u _ I5' r5 (step x H5 y5)) fun _ s6 ⟨σ6,H6,I6,q6⟩=>?_);refine vk hp (aw (hb _ s6 σ6 H6 _ I6 q6) fun f s7 q7=>?_);have again:∀ {i7:St}{H7:Hp},Inv X (pins++t5 fp s5.heap) i7 H7 s7->N i7 H7 -> ∃m,m < n /\ ∃i aK H',Inv X pins aK H' s7/\tn i s7.heap/\(∀b∈fp,H' b=none)/\W i m aK H':=fun {i7 H7} I7 n7=>by
   obtain⟨m',hm,w7⟩:=hN i7 H7 n7;refine⟨m',hm,i+1,i7,H7,I7.vL,T.keep _ _ _ oz fun b hb o e=>(I7.pin (b,o) (fH _ (fH _ (tE hb e)))).1,fun b hb=>?_,w7⟩;obtain⟨o,e,d⟩:=T.obj _ _ oz b hb;exact(I7.pin (b,o) (fH _ (fH _ (tE hb e)))).2.1
  cases f with
  |next=>obtain⟨i7,H7,I7,n7⟩:=q7;exact again I7 n7
  |cont=>obtain⟨i7,H7,I7,n7⟩:=q7;exact again I7 n7
  |brk=>obtain⟨i7,H7,I7,q7⟩:=q7;exact⟨i7,H7,I7.vL,q7⟩
  |ret v=>obtain⟨x7,i7,H7,I7,r7,q7⟩:=q7;exact⟨x7,i7,H7,I7.vL,r7,q7⟩
theorem tL {g:TG}{D:Ends} (Pv:Nat->St->Hp->Prop) (h0:Pv 0 σ H) (hl:∀i σ H,i<=xs.length->Pv i σ H->ak K H a xs)
  (hs:∀i x σ H,xs[i]? = some x->Pv i σ H->g x σ H fun ib H2=>tb { D with nx:=Pv (i+1),ct:=Pv (i+1),bk:=D.nx } ib H2) (hd:∀σ H,Pv xs.length σ H->D.nx σ H) :
  ∃W:Nat->Nat->St->Hp->Prop,(∃m,W 0 m σ H) /\ ∀i m σ H,W i m σ H ->
   ((rW K a).stop i H/\D.nx σ H)\/((rW K a).go i H /\ ∃N:St->Hp->Prop,(∀aK H',N aK H' -> ∃m',m' < m/\W (i+1) m' aK H') /\ ∀x H',(rW K a).pW i H x H'->g x σ H' fun ib H2=>tb { D with nx:=N,ct:=N,bk:=D.nx } ib H2):=by
 refine⟨fun i m σ H=>m=xs.length - i/\i<=xs.length/\Pv i σ H,⟨xs.length,by simp,bf _,h0⟩,?_⟩
 rintro i m σ H ⟨rfl,hi,p⟩;have q:=hl i σ H hi p
 by_cases aV:i < xs.length
 ·refine .inr ⟨⟨xs,xs[i],q,by simp[aV]⟩,Pv (i+1),fun aK H' p'=>⟨xs.length - (i+1),by omega,rfl,aV,p'⟩,fun x H' y=>?_⟩
  obtain⟨e,y⟩:=y;subst e;exact hs i x σ _ (y xs q) p
 ·have e:i=xs.length:=by omega
  subst e;exact .inl ⟨⟨xs,q,aP _⟩,hd σ H p⟩
theorem ZF {g:TG}{D:Ends} (Pv:Nat->St->Hp->Prop) (h0:Pv 0 σ H) (hl:∀i σ H,i<=xs.length->Pv i σ H->aE K H a xs)
  (hs:∀i x σ H,xs[i]? = some x->Pv i σ H->g x σ H fun ib H2=>tb { D with nx:=Pv (i+1),ct:=Pv (i+1),bk:=D.nx } ib H2) (hd:∀σ H,Pv xs.length σ H->D.nx σ H) :
  ∃W:Nat->Nat->St->Hp->Prop,(∃m,W 0 m σ H) /\ ∀i m σ H,W i m σ H ->
   ((ou K a).stop i H/\D.nx σ H)\/((ou K a).go i H /\ ∃N:St->Hp->Prop,(∀aK H',N aK H' -> ∃m',m' < m/\W (i+1) m' aK H') /\ ∀x H',(ou K a).pW i H x H'->g x σ H' fun ib H2=>tb { D with nx:=N,ct:=N,bk:=D.nx } ib H2):=by
 refine⟨fun i m σ H=>m=xs.length - i/\i<=xs.length/\Pv i σ H,⟨xs.length,by simp,bf _,h0⟩,?_⟩
 rintro i m σ H ⟨rfl,hi,p⟩;have q:=hl i σ H hi p
 by_cases aV:i < xs.length
 ·refine .inr ⟨⟨xs,xs[i],q,by simp[aV]⟩,Pv (i+1),fun aK H' p'=>⟨xs.length - (i+1),by omega,rfl,aV,p'⟩,fun x H' y=>?_⟩
  obtain⟨e,y⟩:=y;subst e;exact hs i x σ _ (y xs q) p
 ·have e:i=xs.length:=by omega
  subst e;exact .inl ⟨⟨xs,q,aP _⟩,hd σ H p⟩
theorem vE {g:TG}{D:Ends} (Pv:Nat->St->Hp->Prop) (h0:Pv 0 σ H)
  (hs:∀i σ H,i < n->Pv i σ H->g (.int (lo+i)) σ H fun ib H2=>tb { D with nx:=Pv (i+1),ct:=Pv (i+1),bk:=D.nx } ib H2) (hd:∀σ H,Pv n σ H->D.nx σ H) :
  ∃W:Nat->Nat->St->Hp->Prop,(∃m,W 0 m σ H) /\ ∀i m σ H,W i m σ H ->
   ((rX lo n).stop i H/\D.nx σ H)\/((rX lo n).go i H /\ ∃N:St->Hp->Prop,(∀aK H',N aK H' -> ∃m',m' < m/\W (i+1) m' aK H') /\ ∀x H',(rX lo n).pW i H x H'->g x σ H' fun ib H2=>tb { D with nx:=N,ct:=N,bk:=D.nx } ib H2):=by
 refine⟨fun i m σ H=>m=n - i/\i<=n/\Pv i σ H,⟨n,by simp,bf _,h0⟩,?_⟩
 rintro i m σ H ⟨rfl,hi,p⟩
 by_cases aV:i < n
 ·refine .inr ⟨aV,Pv (i+1),fun aK H' p'=>⟨n - (i+1),by omega,rfl,aV,p'⟩,fun x H' y=>?_⟩
  obtain⟨e,y⟩:=y;subst e y;exact hs i σ _ aV p
 ·have e:i=n:=by omega
  subst e;exact .inl ⟨aP _,hd σ H p⟩
abbrev R2:=V->V->Hp->VK->Prop
def cI (X:Cx) (f:Value->Value->Sem Value) (r:R2):Prop:=
 ∀ (pins:List (Addr×Obj)) (s:Shared) (σ:St) (H:Hp) (x y:V) (v u:Value) (Q:VK),Inv X pins σ H s->RelV x v->RelV y u->r x y H Q ->
  wpAny (model X.prog X.w) X.A (f v u) (EP X pins σ Q) X.xe s
def IB (X:Cx) (f:Value->Sem Value) (r:V->Hp->VK->Prop):Prop:=
 ∀ (pins:List (Addr×Obj)) (s:Shared) (σ:St) (H:Hp) (x:V) (v:Value) (Q:VK),Inv X pins σ H s->RelV x v->r x H Q ->
  wpAny (model X.prog X.w) X.A (f v) (EP X pins σ Q) X.xe s
def eu (X:Cx) (f:Value) (r:List V->Hp->VK->Prop):Prop:=
 ∀ (pins:List (Addr×Obj)) (s:Shared) (σ:St) (H:Hp) (xs:List V) (us:List Value) (Q:VK),Inv X pins σ H s->Vals xs us->r xs H Q ->
  wpAny (model X.prog X.w) X.A (call f us) (EP X pins σ Q) X.xe s
def adj (X:Cx) (r:V->Hp->(Bool->Hp->Prop)->Prop):Prop:=
 ∀ (pins:List (Addr×Obj)) (s:Shared) (σ:St) (H:Hp) (x:V) (v:Value) (Q:Bool->Hp->Prop),Inv X pins σ H s->RelV x v->r x H Q ->
  wpAny (model X.prog X.w) X.A (truthy v) (TP X pins σ Q) X.xe s
def j5 (r:R2) (ta tb:TE):TE:=fun σ H Q=>ta σ H fun x H1=>tb σ H1 fun y H2=>r x y H2 Q
def tUn (r:V->Hp->VK->Prop) (ta:TE):TE:=fun σ H Q=>ta σ H fun x H1=>r x H1 Q
def rI (C:Int->Int->Prop) (g:Int->Int->V):R2:=fun x y H Q=>∃i j,x = .int i/\y = .int j/\C i j/\Q (g i j) H
def rY (g:Int->Int->V):R2:=fun x y H Q=>∃i j,x = .int i/\y = .int j/\Q (g i j) H
def rU (g:Int->V):V->Hp->VK->Prop:=fun x H Q=>∃i,x = .int i/\Q (g i) H
section
variable{a b:Expr}{tb tc:TE}
theorem FQ (ha:PE X a ta) (hb:PE X b tb) {R:V->V->Hp->Prop} (I:Inv X pins σ H s)
  (h:ta σ H fun x H1=>tb σ H1 fun y H2=>R x y H2) {f:Value->Value->Sem Value}
  (hf:∀v u s2 x y H2,Inv X pins σ H2 s2->RelV x v->RelV y u->R x y H2->wpAny (model X.prog X.w) X.A (f v u) Q X.xe s2) :
  wpAny (model X.prog X.w) X.A (eval a X.env) (fun v bh=>wpAny (model X.prog X.w) X.A (eval b X.env) (fun u lB=>wpAny (model X.prog X.w) X.A (f v u) Q X.xe lB) X.xe bh) X.xe s:=by
 refine aw (ha pins s σ H _ I h) fun v s1 ⟨x,H1,I1,r1,q1⟩=>?_;refine aw (hb pins s1 σ H1 _ I1 q1) fun u s2 ⟨y,H2,I2,r2,q2⟩=>?_;exact hf v u s2 x y H2 I2 r1 r2 q2
theorem cH {op:Operator}{r:R2} (ho:cI X (binaryOp op) r) (ha:PE X a ta) (hb:PE X b tb):PE X (.BinOp a op b pos) (j5 r ta tb):=by
 intro pins s σ H Q I h;exact wpAny_BinOp (FQ ha hb I h fun v u s2 x y H2 I2 rx ry q=>ho pins s2 σ H2 x y v u Q I2 rx ry q)
theorem OT {op:UnaryOp}{r:V->Hp->VK->Prop} (ho:IB X (unaryOp op) r) (ha:PE X a ta):PE X (.UnaryOp op a pos) (tUn r ta):=by
 intro pins s σ H Q I h;exact UnaryOp_ (aw (ha pins s σ H _ I h) fun v s1 ⟨x,H1,I1,r1,q1⟩=>ho pins s1 σ H1 x v Q I1 r1 q1)
theorem uJ {f:Value->Value->Sem Value}{C:Int->Int->Prop}{g:Int->Int->Int}
  (rule:∀ (i j:Int) (t u:Tok) (s:Shared) (Q:Value->Shared->Prop) (E:Value->Shared->Prop),C i j->Q (.int (g i j) s.toks) { s with toks:=s.toks+1 }->wpAny (model X.prog X.w) X.A (f (.int i t) (.int j u)) Q E s) :
  cI X f (rI C fun i j=>.int (g i j)):=by
 intro pins s σ H x y v u Q I rx ry h;obtain⟨i,j,rfl,rfl,hc,q⟩:=h;obtain⟨t,rfl⟩:=rx;obtain⟨t',rfl⟩:=ry;exact rule i j t t' s _ _ hc ⟨.int (g i j),H,I.tok _,⟨_,rfl⟩,q⟩
theorem PD {f:Value->Value->Sem Value}{g:Int->Int->Int}
  (rule:∀ (i j:Int) (t u:Tok) (s:Shared) (Q:Value->Shared->Prop) (E:Value->Shared->Prop),Q (.int (g i j) s.toks) { s with toks:=s.toks+1 }->wpAny (model X.prog X.w) X.A (f (.int i t) (.int j u)) Q E s) :
  cI X f (rY fun i j=>.int (g i j)):=by
 intro pins s σ H x y v u Q I rx ry h;obtain⟨i,j,rfl,rfl,q⟩:=h;obtain⟨t,rfl⟩:=rx;obtain⟨t',rfl⟩:=ry;exact rule i j t t' s _ _ ⟨.int (g i j),H,I.tok _,⟨_,rfl⟩,q⟩
theorem FR {f:Value->Value->Sem Value}{g:Int->Int->Bool}
  (rule:∀ (i j:Int) (t u:Tok) (s:Shared) (Q:Value->Shared->Prop) (E:Value->Shared->Prop),Q (.bool (g i j)) s->wpAny (model X.prog X.w) X.A (f (.int i t) (.int j u)) Q E s) :
  cI X f (rY fun i j=>.bl (g i j)):=by
 intro pins s σ H x y v u Q I rx ry h;obtain⟨i,j,rfl,rfl,q⟩:=h;obtain⟨t,rfl⟩:=rx;obtain⟨t',rfl⟩:=ry;exact rule i j t t' s _ _ ⟨.bl (g i j),H,I,rfl,q⟩
def adk (i j:Int):Prop:=0 < j/\j < 1073741824
def adl (i j:Int):Prop:=0<=j/\j<=1000000/\i.natAbs < 2 ^ 64
def wU (i j:Int):Prop:=(-(2 ^ 64) < i/\i < 2 ^ 64)\/(-(2 ^ 64) < j/\j < 2 ^ 64)
theorem wU.ok {i j:Int} (h:wU i j):IntMulOk i j:=by
 rcases h with⟨h1,h2⟩|⟨h1,h2⟩
 ·exact .of_left (intBits_le_64 h1 h2)
 ·exact .of_right (intBits_le_64 h1 h2)
theorem lr:cI X (binaryOp .Add) (rY fun i j=>.int (i+j)):=PD fun _ _ _ _ _ _ _ q=>add_int q
theorem Oz:cI X (binaryOp .Sub) (rY fun i j=>.int (i - j)):=PD fun _ _ _ _ _ _ _ q=>sub_int q
theorem ET:cI X (binaryOp .Mult) (rI wU fun i j=>.int (i * j)):=uJ fun _ _ _ _ _ _ _ hc q=>mul_int q hc.ok
theorem NT:cI X (binaryOp .FloorDiv) (rI adk fun i j=>.int (i / j)):=uJ fun i j _ _ _ _ _ hc q=>by
 have h1:(0:Int) < j:=hc.1;have h2:j < 1073741824:=hc.2;exact floordiv_int (by omega) (by rw[ank i (by omega)];exact q) (.inl (PyProof.noPylong_small (by omega)))
theorem qZ:cI X (binaryOp .Mod) (rI (fun _ j=>0 < j) fun i j=>.int (i % j)):=uJ fun i j _ _ _ _ _ hc q=>by
 have h1:(0:Int) < j:=hc;exact mod_int' (by omega) (by rw[Int.fmod_eq_emod_of_nonneg i (by omega)];exact q)
theorem aaT:cI X (binaryOp .Pow) (rI adl fun i j=>.int (i ^ j.toNat)):=uJ fun _ _ _ _ _ _ _ hc q=>pow_int_small hc.1 hc.2.1 hc.2.2 q
theorem ZG:cI X (inplaceOp .Mult) (rI wU fun i j=>.int (i * j)):=uJ fun _ _ _ _ _ _ _ hc q=>imul_int q hc.ok
theorem unI {f:Value->Sem Value}{g:Int->Int}
  (rule:∀ (i:Int) (t:Tok) (s:Shared) (Q:Value->Shared->Prop) (E:Value->Shared->Prop),Q (.int (g i) s.toks) { s with toks:=s.toks+1 }->wpAny (model X.prog X.w) X.A (f (.int i t)) Q E s) :
  IB X f (rU fun i=>.int (g i)):=by
 intro pins s σ H x v Q I rx h;obtain⟨i,rfl,q⟩:=h;obtain⟨t,rfl⟩:=rx;exact rule i t s _ _ ⟨.int (g i),H,I.tok _,⟨_,rfl⟩,q⟩
theorem OA:IB X (unaryOp .USub) (rU fun i=>.int (-i)):=unI fun _ _ _ _ _ q=>neg_int q
end
def PF:V->V->Bool
 |.aF,.aF=>true|.aF,.int _=>true|.int _,.aF=>true|.aF,.bl _=>true|.bl _,.aF=>true|.aF,.str _=>true|.str _,.aF=>true
 |.int _,.int _=>true|.bl _,.bl _=>true|.str _,.str _=>true|.i4 _,.i4 _=>true
 |.int _,.str _=>true|.str _,.int _=>true|.bl _,.str _=>true|.str _,.bl _=>true
 |_,_=>false
def rEq:R2:=fun x y H Q=>PF x y=true/\Q (.bl (decide (x=y))) H
def RJ:R2:=fun x y H Q=>PF x y=true/\Q (.bl (!decide (x=y))) H
theorem NV {i j:Int}:decide (V.int i=V.int j)=(i==j):=by
 rw[vm];simp
theorem OB {i j:Bool}:decide (V.bl i=V.bl j)=(i==j):=by
 rw[vm];simp
theorem NW {i j:Str}:decide (V.str i=V.str j)=(i==j):=by
 rw[vm];simp
theorem NX {i j:Array UInt8}:decide (V.i4 i=V.i4 j)=(i.toList==j.toList):=by
 rw[vm];cases i
 cases j
 simp
section
variable{a b:Expr}{tb tc:TE}
theorem cX {Q:VK}{k k':Bool} (I:Inv X pins σ H s) (q:Q (.bl k) H) (e:k=k'):EP X pins σ Q (.bool k') s:=by
 subst e;exact⟨.bl k,H,I,rfl,q⟩
theorem ly:cI X (compareOp .Eq) rEq:=by
 intro pins s σ H x y v u Q I rx ry h;obtain⟨hs,q⟩:=h;cases x with
 |aF =>
  cases rx
  cases y with
  |aF=>cases ry;exact PySem.EqNone.eq_none_none (cX I q (by simp))
  |bl j=>cases ry;exact PySem.EqNone.eq_none_bool (cX I q (by simp))
  |int j=>obtain⟨t',rfl⟩:=ry;exact PySem.EqNone.eq_none_int (cX I q (by simp))
  |str j=>obtain⟨t',rfl⟩:=ry;exact PySem.EqNone.eq_none_str (cX I q (by simp))
  |_=>exact absurd (show false=true from hs) cw
 |bl i =>
  cases rx
  cases y with
  |aF=>cases ry;exact PySem.EqNone.eq_bool_none (cX I q (by simp))
  |bl j=>cases ry;exact eq_bool (cX I q OB)
  |str j=>obtain⟨t',rfl⟩:=ry;exact PySem.EqMixed.eq_bool_str (cX I q (by simp))
  |_=>exact absurd (show false=true from hs) cw
 |int i =>
  obtain⟨t,rfl⟩:=rx;cases y with
  |aF=>cases ry;exact PySem.EqNone.eq_int_none (cX I q (by simp))
  |int j=>obtain⟨t',rfl⟩:=ry;exact eq_int (cX I q NV)
  |str j=>obtain⟨t',rfl⟩:=ry;exact PySem.EqMixed.eq_int_str (cX I q (by simp))
  |_=>exact absurd (show false=true from hs) cw
 |str i =>
  obtain⟨t,rfl⟩:=rx;cases y with
  |aF=>cases ry;exact PySem.EqNone.eq_str_none (cX I q (by simp))
  |bl j=>cases ry;exact PySem.EqMixed.eq_str_bool (cX I q (by simp))
  |int j=>obtain⟨t',rfl⟩:=ry;exact PySem.EqMixed.eq_str_int (cX I q (by simp))
  |str j=>obtain⟨t',rfl⟩:=ry;exact eq_str (cX I q NW)
  |_=>exact absurd (show false=true from hs) cw
 |i4 i =>
  obtain⟨t,rfl⟩:=rx;cases y with
  |i4 j=>obtain⟨t',rfl⟩:=ry;exact PySem.W.eq_bytes (cX I q NX)
  |_=>exact absurd (show false=true from hs) cw
 |_=>cases y <;> exact absurd (show false=true from hs) cw
theorem nR:cI X (compareOp .NotEq) RJ:=by
 intro pins s σ H x y v u Q I rx ry h;obtain⟨hs,q⟩:=h;cases x with
 |aF =>
  cases rx
  cases y with
  |aF=>cases ry;exact PySem.EqNone.ne_none_none (cX I q (by simp))
  |bl j=>cases ry;exact PySem.EqNone.ne_none_bool (cX I q (by simp))
  |int j=>obtain⟨t',rfl⟩:=ry;exact PySem.EqNone.ne_none_int (cX I q (by simp))
  |str j=>obtain⟨t',rfl⟩:=ry;exact PySem.EqNone.ne_none_str (cX I q (by simp))
  |_=>exact absurd (show false=true from hs) cw
 |bl i =>
  cases rx
  cases y with
  |aF=>cases ry;exact PySem.EqNone.ne_bool_none (cX I q (by simp))
  |bl j=>cases ry;exact ne_bool (cX I q (eU not OB))
  |str j=>obtain⟨t',rfl⟩:=ry;exact PySem.EqMixed.ne_bool_str (cX I q (by simp))
  |_=>exact absurd (show false=true from hs) cw
 |int i =>
  obtain⟨t,rfl⟩:=rx;cases y with
  |aF=>cases ry;exact PySem.EqNone.ne_int_none (cX I q (by simp))
  |int j=>obtain⟨t',rfl⟩:=ry;exact ne_int (cX I q (eU not NV))
  |str j=>obtain⟨t',rfl⟩:=ry;exact PySem.EqMixed.ne_int_str (cX I q (by simp))
  |_=>exact absurd (show false=true from hs) cw
 |str i =>
  obtain⟨t,rfl⟩:=rx;cases y with
  |aF=>cases ry;exact PySem.EqNone.ne_str_none (cX I q (by simp))
  |bl j=>cases ry;exact PySem.EqMixed.ne_str_bool (cX I q (by simp))
  |int j=>obtain⟨t',rfl⟩:=ry;exact PySem.EqMixed.ne_str_int (cX I q (by simp))
  |str j=>obtain⟨t',rfl⟩:=ry;exact ne_str (cX I q (eU not NW))
  |_=>exact absurd (show false=true from hs) cw
 |i4 i =>
  obtain⟨t,rfl⟩:=rx;cases y with
  |i4 j=>obtain⟨t',rfl⟩:=ry;exact PySem.W.ne_bytes (cX I q (eU not NX))
  |_=>exact absurd (show false=true from hs) cw
 |_=>cases y <;> exact absurd (show false=true from hs) cw
theorem abL:cI X (compareOp .Lt) (rY fun i j=>.bl (decide (i < j))):=FR fun _ _ _ _ _ _ _ q=>lt_int q
theorem OU:cI X (compareOp .LtE) (rY fun i j=>.bl (decide (i<=j))):=FR fun _ _ _ _ _ _ _ q=>le_int q
theorem Ao:cI X (compareOp .Gt) (rY fun i j=>.bl (decide (j < i))):=FR fun _ _ _ _ _ _ _ q=>gt_int q
theorem pE:cI X (compareOp .Is) (fun x y H Q=>y = .aF/\Q (.bl (decide (x = .aF))) H):=by
 intro pins s σ H x y v u Q I rx ry h;obtain⟨rfl,q⟩:=h;cases ry
 refine is_none_gen (cX I q ?_);cases x <;> first
  |(cases rx;rfl)
  |(obtain⟨t,rfl⟩:=rx;rfl)
theorem bQ (b:Expr) {op:CmpOp} (h:op ≠ .In:=by decide) (h2:op ≠ .NotIn:=by decide):behindInMarks op b=false:=by
 have e1:(op==CmpOp.In)=false:=by cases op <;> first|rfl|exact absurd rfl h
 have e2:(op==CmpOp.NotIn)=false:=by cases op <;> first|rfl|exact absurd rfl h2
 cases b <;> simp[behindInMarks,e1,e2]
theorem qV {op:CmpOp}{r:R2} (ho:cI X (compareOp op) r) (ha:PE X a ta) (hb:PE X b tb) (hm:behindInMarks op b=false):PE X (.Compare a [op] [b] pos) (j5 r ta tb):=by
 intro pins s σ H Q I h;exact wpAny_Compare1 (FQ ha hb I h fun v u s2 x y H2 I2 rx ry q=>ho pins s2 σ H2 x y v u Q I2 rx ry q) hm
def nT (t:TE):TT:=fun σ H Q=>t σ H fun x H'=>∃k,x = .bl k/\Q k H'
theorem bK {op:CmpOp}{r:R2} (ho:cI X (compareOp op) r) (ha:PE X a ta) (hb:PE X b tb) (hm:behindInMarks op b=false):PT X (.Compare a [op] [b] pos) (nT (j5 r ta tb)):=by
 intro pins s σ H Q I h;refine wpAny_isTrue_Compare1 (aw (ha pins s σ H _ I h) fun v s1 ⟨x,H1,I1,r1,q1⟩=>aw (hb pins s1 σ H1 _ I1 q1) fun u s2 ⟨y,H2,I2,r2,q2⟩ =>
  aw (ho pins s2 σ H2 x y v u _ I2 r1 r2 q2) fun c s3 ⟨z,H3,I3,r3,k,e,q3⟩=>?_) hm
 subst e;cases r3
 exact nB ⟨H3,I3,q3⟩
def OC (r r':R2) (ta tb tc:TE):TE:=fun σ H Q=>ta σ H fun x H1=>tb σ H1 fun y H2=>r x y H2 fun z H3=>∃k,z = .bl k /\
 (if k=true then tc σ H3 fun w' H4=>r' y w' H4 Q else Q (.bl false) H3)
theorem YB {op rZ:CmpOp}{r r':R2} (ho:cI X (compareOp op) r) (eQ:cI X (compareOp rZ) r') (ha:PE X a ta) (hb:PE X b tb) (hc:PE X c tc)
  (hm:lastMarks [op,rZ] [b,c]=false:=by with_unfolding_all rfl):PE X (.Compare a [op,rZ] [b,c] pos) (OC r r' ta tb tc):=by
 intro pins s σ H Q I h;refine Compare_chain (aw (ha pins s σ H _ I h) fun v s1 ⟨x,H1,I1,r1,q1⟩=>chain_link (aw (hb pins s1 σ H1 _ I1 q1) fun u s2 ⟨y,H2,I2,r2,q2⟩ =>
  aw (ho pins s2 σ H2 x y v u _ I2 r1 r2 q2) fun d s3 ⟨z,H3,I3,r3,k,e,q3⟩=>?_)) hm
 subst e;cases r3
 refine nB ?_;cases k with
 |false=>exact ite_ff ⟨.bl false,H3,I3,rfl,q3⟩
 |true=>exact ite_tt (chain_last (aw (hc pins s3 σ H3 _ I3 q3) fun w' s4 ⟨z',H4,I4,r4,q4⟩=>eQ pins s4 σ H4 y z' u w' Q I4 r2 r4 q4))
theorem YC {op rZ:CmpOp}{r r':R2} (ho:cI X (compareOp op) r) (eQ:cI X (compareOp rZ) r') (ha:PE X a ta) (hb:PE X b tb) (hc:PE X c tc)
  (hm:lastMarks [op,rZ] [b,c]=false:=by with_unfolding_all rfl):PT X (.Compare a [op,rZ] [b,c] pos) (nT (OC r r' ta tb tc)):=by
 intro pins s σ H Q I h;refine isTrue_chain (aw (ha pins s σ H _ I h) fun v s1 ⟨x,H1,I1,r1,q1⟩=>test_link (aw (hb pins s1 σ H1 _ I1 q1) fun u s2 ⟨y,H2,I2,r2,q2⟩ =>
  aw (ho pins s2 σ H2 x y v u _ I2 r1 r2 q2) fun d s3 ⟨z,H3,I3,r3,k,e,q3⟩=>?_)) hm
 subst e;cases r3
 refine nB ?_;cases k with
 |false =>
  obtain⟨k',e',q'⟩:=q3;cases e'
  exact ite_ff ⟨H3,I3,q'⟩
 |true =>
  refine ite_tt (test_last (aw (hc pins s3 σ H3 _ I3 q3) fun w' s4 ⟨z',H4,I4,r4,q4⟩=>aw (eQ pins s4 σ H4 y z' u w' _ I4 r2 r4 q4) fun d' s5 ⟨z2,H5,I5,r5,k2,e2,q5⟩=>?_));subst e2;cases r5
  exact nB ⟨H5,I5,q5⟩
def PH (K:PySem.W.Frag) (x:V) (H:Hp) (k:Bool):Prop:=
 match x with
 |.aF=>k=false
 |.bl b=>k=b
 |.int i=>k=(i != 0)
 |.str y=>y.length<=sizeLine/\k=((y.length:Int) != 0)
 |.i4 y=>y.size<=sizeLine/\k=((y.size:Int) != 0)
 |.ref p=>(∃xs,ak K H p xs/\k = !xs.isEmpty)\/(∃xs,aE K H p xs/\k = !xs.isEmpty) \/ ∃kvs,H p=some (.dK kvs)/\k = !kvs.isEmpty
 |_=>False
theorem W6 {κ:Type}{kvs:List (κ×V)}{vs:List (κ×Value)} (r:KV kvs vs):(!vs.isEmpty) = !kvs.isEmpty:=by
 cases r <;> rfl
theorem DF (r:Vals xs its):(!its.toArray.isEmpty) = !xs.isEmpty:=by
 cases r <;> simp
theorem q0:(sizeLine:Nat) < 2 ^ 63:=by rw[aT];decide
theorem aaU:adj X (fun x H Q=>∃k,PH X.K x H k/\Q k H):=by
 intro pins s σ H x v Q I rx h;obtain⟨k,e,q⟩:=h;have hl:=q0;have hs:sizeLine=16777216:=aT;cases x with
 |aF =>
  cases rx
  have e':k=false:=e;subst e';exact truthy_none ⟨H,I,q⟩
 |bl b =>
  cases rx
  have e':k=b:=e;subst e';exact nB ⟨H,I,q⟩
 |int i =>
  obtain⟨t,rfl⟩:=rx;have e':k=(i != 0):=e;subst e';exact PySem.P.truthy_int ⟨H,I,q⟩
 |str y =>
  obtain⟨t,rfl⟩:=rx;obtain⟨hy,e'⟩:y.length<=sizeLine/\k=((y.length:Int) != 0):=e;subst e';exact PySem.P.truthy_str (by omega) ⟨H,I.tok _,q⟩
 |i4 y =>
  obtain⟨t,rfl⟩:=rx;obtain⟨hy,e'⟩:y.size<=sizeLine/\k=((y.size:Int) != 0):=e;subst e';exact PySem.W.truthy_bytes (by omega) ⟨H,I.tok _,q⟩
 |ref p =>
  cases rx
  have e':(∃xs,ak X.K H p xs/\k = !xs.isEmpty)\/(∃xs,aE X.K H p xs/\k = !xs.isEmpty) \/ ∃kvs,H p=some (.dK kvs)/\k = !kvs.isEmpty:=e;rcases e' with⟨xs,hx,e'⟩|⟨xs,hx,e'⟩|⟨kvs,hx,e'⟩
  ·subst e'
   obtain⟨its,r,pl,hz⟩:=I.list hx;have hlen:=r.length;exact wpAny_truthy_list pl.isList (by simp only[b8];omega) ⟨H,I.tok _,by rw[DF r];exact q⟩
  ·subst e'
   obtain⟨its,r,pl,hz⟩:=I.tuple hx;have hlen:=r.length;exact truthy_tuple pl (by simp only[b8];omega) ⟨H,I.tok _,by rw[DF r];exact q⟩
  ·subst e'
   obtain⟨hz,hS,vs,r,m⟩:kvs.length<=sizeLine/\(p==sysModules)=false /\ ∃vs,KV kvs vs/\s.heap.DictOf (dJ X.prog X.w) p vs:=I.au p _ hx;have hlen:kvs.length=vs.length:=gZ r;exact wpAny_truthy_dict hS m (by omega) ⟨H,I.tok _,by rw[W6 r];exact q⟩
 |_=>exact(show False from e).elim
theorem qQ (ha:PE X a ta) (he:∀whole,isTrue a X.env whole=(do let v <- whole;standAt a.pos;holding [v] (truthy v))) :
  PT X a (fun σ H Q=>ta σ H fun x H'=>∃k,PH X.K x H' k/\Q k H'):=by
 intro pins s σ H Q I h;exact isTrue_plain (aw (ha pins s σ H _ I h) fun v s1 ⟨x,H1,I1,r1,q1⟩=>aaU pins s1 σ H1 x v Q I1 r1 q1) (he _)
theorem LP:cI X (binaryOp .Add) (fun x y H Q=>∃i j,x = .str i/\y = .str j/\i.length+j.length<=sizeLine/\Q (.str (i++j)) H):=by
 intro pins s σ H x y v u Q I rx ry h;obtain⟨i,j,rfl,rfl,hz,q⟩:=h;obtain⟨t,rfl⟩:=rx;obtain⟨t',rfl⟩:=ry;exact add_str (fun t' tk=>⟨.str (i++j),H,I.tok _,⟨_,rfl⟩,q⟩) hz
theorem vals1 {x:V} (r:Vals [x] us):∃u,us = [u]/\RelV x u:=by
 cases r with
 |cons r1 r2=>cases r2;exact⟨_,rfl,r1⟩
theorem vals2 {x:V} (r:Vals [x,y] us):∃u w',us = [u,w']/\RelV x u/\RelV y w':=by
 cases r with
 |cons r1 r2 =>
  cases r2 with
  |cons r3 r4=>cases r4;exact⟨_,_,rfl,r1,r3⟩
theorem M6:eu X (.builtin "abs") (fun xs H Q=>∃i,xs = [.int i]/\Q (.int (if i < 0 then -i else i)) H):=by
 intro pins s σ H xs us Q I r h;obtain⟨i,rfl,q⟩:=h;obtain⟨u,rfl,t,rfl⟩:=vals1 r;exact call_abs_int fun u tk=>⟨.int (if i < 0 then -i else i),H,I.tok _,⟨_,rfl⟩,q⟩
theorem XM (hc:X.calm=true):eu X (.builtin "max") (fun xs H Q=>∃i j,xs = [.int i,.int j]/\Q (.int (if j > i then j else i)) H):=by
 intro pins s σ H xs us Q I r h;obtain⟨i,j,rfl,q⟩:=h;obtain⟨u,w',rfl,⟨t,rfl⟩,⟨t',rfl⟩⟩:=vals2 r;refine max_two_ints (I.ok.hd hc) fun h' tk k=>⟨_,H,I.kept k,?_,q⟩
 by_cases hj:j > i
 ·rw[ax hj,ax hj];exact⟨_,rfl⟩
 ·rw[aj hj,aj hj];exact⟨_,rfl⟩
theorem XN (hc:X.calm=true):eu X (.builtin "min") (fun xs H Q=>∃i j,xs = [.int i,.int j]/\Q (.int (if j < i then j else i)) H):=by
 intro pins s σ H xs us Q I r h;obtain⟨i,j,rfl,q⟩:=h;obtain⟨u,w',rfl,⟨t,rfl⟩,⟨t',rfl⟩⟩:=vals2 r;refine min_two_ints (I.ok.hd hc) fun h' tk k=>⟨_,H,I.kept k,?_,q⟩
 by_cases hj:j < i
 ·rw[ax hj,ax hj];exact⟨_,rfl⟩
 ·rw[aj hj,aj hj];exact⟨_,rfl⟩
end
structure rE (h:Heap) (x dx C:Addr) (mA:Str->Option Value):Prop where
 obj:h.get? x=some (PySem.W.instObj C dx)
 ns:h.Ns1 dx mA
 ne:dx≠x
theorem zy {dx:Addr} (n:h.Ns1 dx mA):∃od,h.get? dx=some od /\ ∀name,PySem.W.lookIn name od=some (mA name):=by
 obtain⟨o,es,ep,ho,hd,hk,_,hm⟩:=n;refine⟨o,ho,fun name=>?_⟩;have e:=hm name;unfold nsFind findBy at e;rw[<-Array.find?_toList]at e;unfold PySem.W.lookIn;rw[hd]
 dsimp only
 split
 ·rename_i y q
  rw[q]at e;exact eU some e
 ·rename_i q
  rw[q]at e;have a:es.toList.any (·.refKey)=false:=by
   rw[KS];intro y hy;obtain⟨z,t,mF⟩:=hk y (Array.mem_toList_iff.mp hy);simp[DictEntry.refKey,mF]
  have a' : ¬ es.toList.any (·.refKey)=true:=by rw[a];exact cw
  rw[aj a'];exact eU some e
theorem rE.look {x dx:Addr} (I:rE h x dx C mA):∃od,PySem.W.InstAt h x (PySem.W.instObj C dx) C (some od) /\ ∀name,PySem.W.lookIn name od=some (mA name):=
 let ⟨od,ho,hl⟩:=zy I.ns
 ⟨od,⟨I.obj,rfl,rfl,ho⟩,hl⟩
section
variable{x dx:Addr}{v:Value}
theorem get_map (X:K.In s.heap) (I:rE s.heap x dx C mA) (hg:PySem.W.plainGet K C name=true) (hh:PySem.W.hasDictIn K C=true)
  (ha:PySem.W.findIn K (.ref C) name=some none) (hv:mA name=some v) (BO:PySem.W.handedIn v=true) (h:Q v { s with toks:=s.toks+1 }) :
  wpAny (model prog w) A (getAttr (.ref x) name expr) Q E s:=by
 obtain⟨od,J,hl⟩:=I.look;exact PySem.W.get_value X J (Ve hg).1 (PySem.W.findObj_own hh ha rfl (by rw[hl,hv])) BO h
theorem YD {pl:Sem Bool}{Q:Value×List Value->Shared->Prop} (X:K.In s.heap) (I:rE s.heap x dx C mA) (hg:PySem.W.plainGet K C name=true)
  (hf:PySem.W.findIn K (.ref C) name=some (some (.ref f))) (ht:PySem.W.isFn K (.ref f)=true) (hv:mA name=none) (h:Q (.ref f,[.ref x]) s) :
  wpAny (model prog w) A (getMethod (.ref x) name pl) Q E s:=by
 obtain⟨od,J,hl⟩:=I.look;exact PySem.W.method_fn X J (Ve hg).1 (Ve hg).2 hf (eV.mp ht) (by show(PySem.W.lookIn name od).map (·.isSome)=some false;rw[hl,hv];rfl) h
theorem ZH {ns:List Str}{Q:Unit->Shared->Prop} (X:K.In s.heap) (I:rE s.heap x dx C mA)
  (hs:PySem.W.findIn K (.ref C) "__setattr__" = some (some (.builtin "object.__setattr__"))) (hp:PySem.W.plainOver K C=true) (ht:PySem.W.takerIn K C name=some none) (hh:PySem.W.hasDictIn K C=true)
  (hw:PySem.Within mA ns) (hsz:ns.length<=sizeLine)
  (h:∀h',rE h' x dx C (fun y=>if y=name then some v else mA y)->Heap.SameBut dx s.heap h'->Q () { s with heap:=h',toks:=s.toks+2 }) :
  wpAny (model prog w) A (setAttr (.ref x) name v) Q E s:=by
 obtain⟨od,J,hl⟩:=I.look;refine PySem.W.set_plain X J hs (PySem.W.osa_open (s:={ s with toks:=s.toks+1 }) (r:=none) X J hp ht fun b=>?_);obtain⟨cd,hc,kI⟩:=PySem.W.any_some hh;have hx:s.heap.get? x=some ⟨.ref C,some dx,.plain,#[]⟩:=I.obj;refine aa (ai (aa (aa (KU hx (aa (PySem.W.Looks.here (s:={ s with toks:=s.toks+1 }) (PySem.W.looks_clsIn X hc) ?_))))));rw[kI];refine ai (a:=some dx) (aa (ai (aa ?_)));refine wpAny_nsSet1 (s:={ s with toks:=s.toks+1 }) I.ns fun h' BP xE=>?_;obtain⟨oD,esD,epD,IC,r6,ID⟩:=BP.count (PySem.Within.cons name v hw);refine aa (wpAny_lookBehind IC (by rw[r6];exact pastItsLine_dict (fw ID (by rw[d7];omega))) ?_)
 exact ai (h _ ⟨(xE.2 _ (aN I.ne)).trans I.obj,BP,I.ne⟩ xE)
theorem YE {R:Result->Shared->Prop}{vs:List Value} (X:K.In s.heap) (hm:PySem.W.makesIn K C=true)
  (hi:PySem.W.findIn K (.ref C) "__init__" = some (some (.ref f))) (hf:PySem.W.typeIn K (.ref f)=some (.type "function"))
  (h:codeAny (model prog w) (A.under (.builtin "type.__call__" ⟨.ref C::vs,kw⟩)) (.call (.ref f) ⟨.ref (s.heap.objs.size+1)::vs,kw⟩) (PySem.W.InitBack (s.heap.objs.size+1) R)
   { s with heap:=(s.heap.push PySem.W.emptyDict).push (PySem.W.instObj C s.heap.objs.size) }) :
  codeAny (model prog w) A (.call (.ref C) ⟨vs,kw⟩) R s:=by
 obtain⟨hh,g,d,t,os⟩:=s;exact PySem.W.make_core (PySem.W.makes_of X hm) (PySem.W.looks_findIn X hi) (fun self=>PySem.W.bind_fn X self hf) (.inl rfl) h
end
def cg (f:Str) (v:V):List (Str×V)->List (Str×V)
 |[]=>[(f,v)]
 |(g,x)::r=>if g=f then (g,v)::r else (g,x)::cg f v r
theorem LH (f g:Str) (v:V):∀fs:List (Str×V),(cg f v fs).lookup g=if g=f then some v else fs.lookup g
 |[]=>by
  show List.lookup g [(f,v)]=_
  by_cases h:g=f
  ·have hb:(g==f)=true:=eV.mpr h
   simp only[List.lookup,hb,ax h]
  ·have hb:(g==f)=false:=ng.mpr h
   simp only[List.lookup,hb,aj h]
 |(k,x)::r=>by
  have ih:=LH f g v r;rw[show cg f v ((k,x)::r)=(if k=f then (k,v)::r else (k,x)::cg f v r) from rfl]
  by_cases hk:k=f
  ·rw[ax hk]
   by_cases h:g=k
   ·have hb:(g==k)=true:=eV.mpr h
    simp only[List.lookup,hb,ax (h.trans hk)]
   ·have hb:(g==k)=false:=ng.mpr h
    simp only[List.lookup,hb,aj (fun e:g=f=>h (e.trans hk.symm))]
  ·rw[aj hk]
   by_cases h:g=k
   ·have hb:(g==k)=true:=eV.mpr h
    simp only[List.lookup,hb,aj (fun e:g=f=>hk (h.symm.trans e))]
   ·have hb:(g==k)=false:=ng.mpr h
    simp only[List.lookup,hb];exact ih
theorem DR (f:Str) (v:V):∀fs:List (Str×V),f∈(cg f v fs).map (·.1) /\ ∀g,g∈fs.map (·.1)->g∈(cg f v fs).map (·.1)
 |[]=>⟨by simp[cg],fun g h=>by simp at h⟩
 |(k,x)::r=>by
  obtain⟨i1,i2⟩:=DR f v r;rw[show cg f v ((k,x)::r)=(if k=f then (k,v)::r else (k,x)::cg f v r) from rfl]
  by_cases hk:k=f
  ·rw[ax hk]
   subst hk;exact⟨by simp,fun g h=>by simpa using h⟩
  ·rw[aj hk]
   refine⟨?_,fun g h=>?_⟩
   ·rw[fX]
    exact bq _ i1
   ·rw[fX]at h ⊢
    rcases bj.mp h with e|e
    ·exact bj.mpr (.inl e)
    ·exact bq _ (i2 g e)
theorem LJ (f:Str) (v:V):∀fs:List (Str×V),(cg f v fs).length<=fs.length+1
 |[]=>by simp[cg]
 |(k,x)::r=>by
  have ih:=LJ f v r;rw[show cg f v ((k,x)::r)=(if k=f then (k,v)::r else (k,x)::cg f v r) from rfl]
  by_cases hk:k=f
  ·rw[ax hk,d7,d7];omega
  ·rw[aj hk,d7,d7];omega
theorem gj.some_of {o:Option Value} (r:gj (some v) o):∃u,o=some u/\RelV v u:=by
 cases o with
 |none=>exact(show False from r).elim
 |some u=>exact⟨u,rfl,r⟩
theorem gj.none_of {o:Option Value} (r:gj none o):o=none:=by
 cases o with
 |none=>rfl
 |some u=>exact(show False from r).elim
theorem Mg (r:RelV v u):PySem.W.handedIn u=true:=by
 cases v with
 |aF=>cases (show u=Value.none from r);rfl
 |bl b=>cases (show u=Value.bool b from r);rfl
 |int i=>obtain⟨t,e⟩:=(show ∃t,u=Value.int i t from r);cases e;rfl
 |str x=>obtain⟨t,e⟩:=(show ∃t,u=Value.str x t from r);cases e;rfl
 |i4 b=>obtain⟨t,e⟩:=(show ∃t,u=Value.bytes b t from r);cases e;rfl
 |i5 b=>obtain⟨t,e⟩:=(show ∃t,u=Value.float b t from r);cases e;rfl
 |ref a=>cases (show u=Value.ref a from r);rfl
 |ty n=>cases (show u=Value.type n from r);rfl
section
variable{dx:Addr}{fs j4:List (Str×V)}
theorem zU (au:cR P w H h) (e:H a=some (.ins C dx fs)):∃mA,rE h a dx C mA/\(∀f,gj (fs.lookup f) (mA f))/\PySem.Within mA (fs.map (·.1))/\fs.length<=1000/\H dx=some (.own a):=by
 obtain⟨d,z,ne,ob,mA,n,r,q⟩:=(show bu P w H h a (.ins C dx fs) from au a _ e);exact⟨mA,⟨ob,n,ne⟩,r,q,z,d⟩
end
structure jy (K:PySem.W.Frag) (C:Addr):Prop where
 pg:PySem.W.plainGet K C Str.empty=true
 hd:PySem.W.hasDictIn K C=true
 po:PySem.W.plainOver K C=true
 sa:PySem.W.findIn K (.ref C) "__setattr__" = some (some (.builtin "object.__setattr__"))
theorem jy.get (c:jy K C) (f:Str):PySem.W.plainGet K C f=true:=c.pg
def f6 (K:PySem.W.Frag) (C:Addr) (f:Str):Prop:=PySem.W.findIn K (.ref C) f=some none
theorem f6.abM {f:Str} (n:f6 K C f):PySem.W.takerIn K C f=some none:=by
 unfold PySem.W.takerIn;rw[show PySem.W.findIn K (.ref C) f=some none from n]
 rfl
structure Meth (K:PySem.W.Frag) (C:Addr) (m:Str) (f:Addr):Prop where
 at_:PySem.W.findIn K (.ref C) m=some (some (.ref f))
 fn:PySem.W.isFn K (.ref f)=true
 kp:PySem.W.keepIn K (.ref f)=true
section
variable{dx:Addr}{fs:List (Str×V)}{f:Str}
theorem LQ {b:Bool} (I:Inv X pins σ H s) (e:H a=some (.ins C dx fs)) (c:jy X.K C) (n:f6 X.K C f) (l:fs.lookup f=some v)
  (h:∀u s',Inv X pins σ H s'->RelV v u->Q u s'):wpAny (model X.prog X.w) A (getAttr (.ref a) f b) Q E s:=by
 obtain⟨mA,O,r,_,_,_⟩:=zU I.au e;obtain⟨u,hu,ru⟩:=gj.some_of (v:=v) (o:=mA f) (by rw[<-l];exact r f)
 exact get_map I.bX O (c.get f) c.hd n hu (Mg ru) (h u _ (I.tok _) ru)
theorem LR {m:Str}{g:Addr}{pl:Sem Bool}{Q:Value×List Value->Shared->Prop} (I:Inv X pins σ H s) (e:H a=some (.ins C dx fs)) (c:jy X.K C) (k:Meth X.K C m g) (l:fs.lookup m=none)
  (h:Q (.ref g,[.ref a]) s):wpAny (model X.prog X.w) A (getMethod (.ref a) m pl) Q E s:=by
 obtain⟨mA,O,r,_,_,_⟩:=zU I.au e;have hn:mA m=none:=gj.none_of (by rw[<-l];exact r m)
 exact YD I.bX O (c.get m) k.at_ k.fn hn h
theorem LS {Q:Unit->Shared->Prop} (I:Inv X pins σ H s) (e:H a=some (.ins C dx fs)) (c:jy X.K C) (n:f6 X.K C f) (hl:fs.length < 1000) (ry:RelV y u)
  (h:∀s',Inv X pins σ (upd H a (.ins C dx (cg f y fs))) s'->Q () s'):wpAny (model X.prog X.w) A (setAttr (.ref a) f u) Q E s:=by
 obtain⟨mA,O,r,wi,_,ho⟩:=zU I.au e;have hz:(fs.map (·.1)).length<=sizeLine:=by rw[aJ,aT];omega
 refine ZH I.bX O c.sa c.po n.abM c.hd wi hz fun h' O' sb=>h _ ?_;have hd:∃o,h'.get? dx=some o:=let ⟨o,_,_,e',_⟩:=O'.ns;⟨o,e'⟩;refine I.write (x:=a) (e:=dx) (by rw[e];exact True.intro) (.inr ho) (fun b q hb z=>(sb.2 b hb).trans z) hd ?_
 refine⟨by rw[ag O.ne];exact ho,?_,O.ne,O'.obj,_,O'.ns,fun g=>?_,fun g hg=>?_⟩
 ·have:=LJ f y fs;omega
 ·show gj ((cg f y fs).lookup g) (if g=f then some u else mA g)
  rw[LH]
  by_cases q:g=f
  ·rw[ax q,ax q];exact ry
  ·rw[aj q,aj q];exact r g
 ·by_cases q:g=f
  ·rw[q];exact(DR f y fs).1
  ·refine(DR f y fs).2 g (wi g fun z=>hg ?_)
   show(if g=f then some u else mA g)=none;rw[aj q];exact z
theorem Inv.made (I:Inv X pins σ H s):Inv X pins σ (upd (upd H s.heap.objs.size (.own (s.heap.objs.size+1))) (s.heap.objs.size+1) (.ins C s.heap.objs.size []))
  { s with heap:=(s.heap.push PySem.W.emptyDict).push (PySem.W.instObj C s.heap.objs.size) }:=by
 have e1:(s.heap.push PySem.W.emptyDict).get? s.heap.objs.size=some PySem.W.emptyDict:=cp s.heap rfl;have e2:((s.heap.push PySem.W.emptyDict).push (PySem.W.instObj C s.heap.objs.size)).get? (s.heap.objs.size+1)=some (PySem.W.instObj C s.heap.objs.size):=by
  have:=cp (s.heap.push PySem.W.emptyDict) (o:=PySem.W.instObj C s.heap.objs.size) rfl
  rwa [l0]at this
 have e3:(s.heap.push PySem.W.emptyDict).Ns s.heap.objs.size (fun _=>none):=⟨PySem.W.emptyDict,#[],_,e1,rfl,(fun e he=>absurd he (by simp)),fun _=>rfl⟩
 have I1:=I.laid (a:=s.heap.objs.size) (o:= .own (s.heap.objs.size+1)) (h':=s.heap.push PySem.W.emptyDict) (t':=s.toks) (fun b u q=>a8 _ q) (aP _) ⟨_,e1⟩;refine I1.laid (a:=s.heap.objs.size+1) (o:= .ins C s.heap.objs.size []) (t':=s.toks) (fun b u q=>a8 _ q) (Nat.le_of_eq (l0 _ _)) ?_;have ne:s.heap.objs.size≠s.heap.objs.size+1:=bx (qG _);refine⟨by rw[ag ne,af],bf _,ne,e2,fun _=>none,(Heap.Ns1.of_empty e3).at fun o q=>a8 _ q,fun _=>True.intro,fun y hy=>absurd rfl hy⟩
theorem NY {f:Str} (hb:attributeBase e f env (eval e env)=eval e env)
  (h:wpAny (model prog w) A (eval e env) (fun o bh=>wpAny (model prog w) A (getAttr o f true) Q E bh) E s):wpAny (model prog w) A (eval (.Attribute e f pos) env) Q E s:=
 Attribute_any_ h (by rw[arm_eval_Attribute,hb])
end
def PK (K:PySem.W.Frag) (ta:TE) (f:Str):TE:=fun σ H Q=>ta σ H fun x H1=>∃a C dx fs v,x = .ref a/\H1 a=some (.ins C dx fs)/\jy K C/\f6 K C f/\fs.lookup f=some v/\Q v H1
def adm (K:PySem.W.Frag) (ta tv:TE) (f:Str):TS:=fun D σ H=>tv σ H fun y H1=>ta σ H1 fun x H2=>∃a C dx fs,x = .ref a/\H2 a=some (.ins C dx fs)/\jy K C/\f6 K C f/\fs.length < 1000 /\
 D.nx σ (upd H2 a (.ins C dx (cg f y fs)))
def FT (X:Cx) (op:Operator) (rd:V->V->Hp->VK->Prop):Prop:=
 ∀ (pins:List (Addr×Obj)) (s:Shared) (σ:St) (H:Hp) (x y:V) (u v:Value) (Q:VK),Inv X pins σ H s->RelV x u->RelV y v->rd x y H Q->wpAny (model X.prog X.w) X.A (inplaceOp op u v) (EP X pins σ Q) X.xe s
def ZI (K:PySem.W.Frag) (ta tv:TE) (rd:V->V->Hp->VK->Prop) (f:Str):TS:=fun D σ H=>ta σ H fun x H1=>∃a C dx fs v,x = .ref a/\H1 a=some (.ins C dx fs)/\jy K C/\f6 K C f/\fs.lookup f=some v /\
 tv σ H1 fun y H2=>rd v y H2 fun z H3=>∃IE j4,H3 a=some (.ins C IE j4)/\j4.length < 1000/\D.nx σ (upd H3 a (.ins C IE (cg f z j4)))
section
variable{o:Expr}{f:Str}{PL:Pos}
theorem cF (he:PE X e ta) (hb:attributeBase e f X.env (eval e X.env)=eval e X.env):PE X (.Attribute e f pos) (PK X.K ta f):=by
 intro pins s σ H Q I h;refine NY hb (aw (he pins s σ H _ I h) fun u s1 ⟨x,H1,I1,rx,a,C,dx,fs,v,ex,ea,c,n,l,q⟩=>?_);subst ex;obtain rfl:u=Value.ref a:=rx;exact LQ I1 ea c n l fun u' s2 I2 ru=>⟨v,H1,I2,ru,q⟩
theorem iU (ha:PE X o ta) (hv:PE X value tv) (hs:swapsWith value (some (.Attribute o f pos')) pos.line X.env=pure false):PS X (.Assign [.Attribute o f pos'] value pos) (adm X.K ta tv f):=by
 intro pins s σ H D I h;refine anp (aw (hv pins s σ H _ I h) fun u s1 ⟨y,H1,I1,ry,q⟩=>aw (ha pins s1 σ H1 _ I1 q) fun ov s2 ⟨x,H2,I2,rx,a,C,dx,fs,ex,ea,c,n,l,q2⟩=>?_) hs;subst ex;obtain rfl:ov=Value.ref a:=rx;exact LS I2 ea c n l ry fun s3 I3=>⟨σ,_,I3,q2⟩
theorem vF {op:Operator}{rd:V->V->Hp->VK->Prop} (ha:PE X o ta) (hv:PE X value tv) (oA:FT X op rd):PS X (.AugAssign (.Attribute o f PL) op value pos) (ZI X.K ta tv rd f):=by
 intro pins s σ H D I h;refine wpAny_AugAssign_AttributeAny (aw (ha pins s σ H _ I h) fun ov s1 ⟨x,H1,I1,rx,a,C,dx,fs,v,ex,ea,c,n,l,q⟩=>?_);subst ex;obtain rfl:ov=Value.ref a:=rx;refine LQ I1 ea c n l fun u s2 I2 ru=>aw (hv pins s2 σ H1 _ I2 q) fun w3 s3 ⟨y,H2,I3,ry,q3⟩=>aw (oA pins s3 σ H2 v y u w3 _ I3 ru ry q3) fun w4 s4 ⟨z,H3,I4,rz,IE,j4,uK,l',q4⟩=>?_;exact LS I4 uK c n l' rz fun s5 I5=>⟨σ,_,I5,q4⟩
def adn:V->V->Hp->VK->Prop:=fun x y H Q=>∃i j,x = .int i/\y = .int j/\Q (.int (i+j)) H
theorem Ac:FT X .Add adn:=by
 rintro pins s σ H x y u v Q I rx ry ⟨i,j,rfl,rfl,q⟩;obtain⟨t,rfl⟩:=(show ∃t,u=Value.int i t from rx);obtain⟨t',rfl⟩:=(show ∃t',v=Value.int j t' from ry);exact PyProof.Rows.iadd_int ⟨.int (i+j),H,I.tok _,⟨_,rfl⟩,q⟩
end
section
variable{c:Value}{b:Bool}
inductive jV (K:PySem.W.Frag) (H:Hp):V->Value->Prop where
 |aF:jV K H .aF (.type "NoneType")
 |bl (x:Bool):jV K H (.bl x) (.type "bool")
 |int (i:Int):jV K H (.int i) (.type "int")
 |str (x:Str):jV K H (.str x) (.type "str")
 |i5 (x:UInt64):jV K H (.i5 x) (.type "float")
 |lst {a:Addr}{xs:List V} (e:H a=some (.lst xs)):jV K H (.ref a) (.type "list")
 |cq {a:Addr}{o:Obj}{xs:List V} (e:H a=some (.cq o (.lst xs))):jV K H (.ref a) (.type "list")
 |tup {a:Addr}{xs:List V} (e:H a=some (.tup xs)):jV K H (.ref a) (.type "tuple")
 |dK {a:Addr}{kvs:List (Key×V)} (e:H a=some (.dK kvs)):jV K H (.ref a) (.type "dict")
 |dT {a:Addr}{kvs:List (List Key×V)} (e:H a=some (.dT kvs)):jV K H (.ref a) (.type "dict")
 |ins {a C dx:Addr}{fs:List (Str×V)} (e:H a=some (.ins C dx fs)) (cl:jy K C) (ha:PySem.W.findIn K (.ref C) "__class__" = some (some (.builtin "object.__class__")))
   (hn:PySem.W.specialIn K (.builtin "object.__class__") "__get__" = some (some (.builtin "getset_descriptor.__get__"))) (RK:PySem.W.takesIn K (.builtin "object.__class__")=some true)
   (hm:PySem.W.mroIn K C (.type "object")=some true):jV K H (.ref a) (.ref C)
theorem XO {x:V}{t:Value} (I:Inv X pins σ H s) (rx:RelV x u) (ty:jV X.K H x t) (e:PySem.W.kitOne X.K t c=some b) (h:∀tk,Q (.bool b) { s with toks:=tk }) :
  wpAny (model X.prog X.w) A (call (.builtin "isinstance") [u,c]) Q E s:=by
 cases ty with
 |aF=>cases (show u=Value.none from rx);exact nD PySem.W.kitx_none I.bX True.intro e (fun z=>nomatch z) h
 |bl y=>cases (show u=Value.bool y from rx);exact nD PySem.W.kitx_bool I.bX True.intro e (fun z=>nomatch z) h
 |int i=>obtain⟨t,q⟩:=(show ∃t,u=Value.int i t from rx);cases q;exact nD PySem.W.kitx_int I.bX True.intro e (fun z=>nomatch z) h
 |str y=>obtain⟨t,q⟩:=(show ∃t,u=Value.str y t from rx);cases q;exact nD PySem.W.kitx_str I.bX True.intro e (fun z=>nomatch z) h
 |i5 y=>obtain⟨t,q⟩:=(show ∃t,u=Value.float y t from rx);cases q;exact nD PySem.W.kitx_float I.bX True.intro e (fun z=>nomatch z) h
 |@lst a xs ea =>
  cases (show u=Value.ref a from rx)
  obtain⟨_,_,n,_,h1⟩:=(show bu X.prog X.w H s.heap a (.lst xs) from I.au a _ ea);exact nD PySem.W.kitx_list I.bX ⟨_,h1,rfl⟩ e (fun z=>nomatch z) h
 |@cq a ob xs ea =>
  cases (show u=Value.ref a from rx)
  obtain⟨_,_,_,n,_,h1⟩:=(show bu X.prog X.w H s.heap a (.cq ob (.lst xs)) from I.au a _ ea);exact nD PySem.W.kitx_list I.bX ⟨_,h1,rfl⟩ e (fun z=>nomatch z) h
 |@tup a xs ea =>
  cases (show u=Value.ref a from rx)
  obtain⟨_,_,_,p⟩:=(show bu X.prog X.w H s.heap a (.tup xs) from I.au a _ ea);obtain⟨o,h1,h2,_⟩:=p;exact nD PySem.W.kitx_tuple I.bX ⟨o,h1,h2⟩ e (fun z=>nomatch z) h
 |@dK a kvs ea =>
  cases (show u=Value.ref a from rx)
  obtain⟨_,_,vs,_,p⟩:=(show bu X.prog X.w H s.heap a (.dK kvs) from I.au a _ ea);obtain⟨o,es,ep,h1,h2,_⟩:=p;exact nD PySem.W.kitx_dict I.bX ⟨o,h1,h2.1⟩ e (fun z=>nomatch z) h
 |@dT a kvs ea =>
  cases (show u=Value.ref a from rx)
  obtain⟨_,_,xs,_,o,es,ep,h1,h2,_⟩:=(show bu X.prog X.w H s.heap a (.dT kvs) from I.au a _ ea);exact nD PySem.W.kitx_dict I.bX ⟨o,h1,h2.1⟩ e (fun z=>nomatch z) h
 |@ins a C dx fs ea cl ha hn RK hm =>
  cases (show u=Value.ref a from rx)
  obtain⟨mA,O,_⟩:=zU I.au ea;obtain⟨od,J,_⟩:=O.look;exact nD (PySem.W.kitx_own (cl.get _) cl.hd ha hn RK hm) I.bX J e (fun z=>nomatch z) h
end
structure bb (k:Nat) (A:Around):Prop where
 hd:A.handled=none
 dp:A.depth+3 * k+5 < recursionLimit
 un:A.units+16 * k+200 < cLine
 gd:A.guards=some []
theorem bb.mono {k:Nat} (r:bb k A) (h:j<=k):bb j A:=⟨r.hd,by have:=r.dp;omega,by have:=r.un;omega,r.gd⟩
theorem bb.deeper {k:Nat} (r:bb (k+1) A) (env:Env):bb k (A.deeper env):=
 ⟨r.hd,by have:=r.dp;show A.depth+1+3 * k+5 < _;omega,by have:=r.un;show A.units+3+16 * k+200 < _;omega,by first|exact r.gd|simp[Around.deeper,r.gd]⟩
theorem W7:(A.under (.builtin "type.__call__" ⟨.ref C::us,kw⟩)).depth=A.depth+1:=by
 first|rfl|simp[Around.under,Code.weight,Code.isCreation,Code.isGuard,Code.isCaller,Code.frames,Code.isFrame,guardIds]
theorem W8:(A.under (.builtin "type.__call__" ⟨.ref C::us,kw⟩)).units=A.units+1:=by
 first|rfl|simp[Around.under,Code.cUnits,Code.frames,Code.isFrame]
theorem WH (h:A.guards=some []):(A.under (.builtin "type.__call__" ⟨.ref C::us,kw⟩)).guards=some []:=by
 first|exact h|(simp[Around.under,Code.guards,Code.isGuard,guardIds,pushGuards,h])
theorem bb.make {k:Nat} (r:bb (k+1) A) (C:Addr) (us:List Value) (kw:List (Str×Value)):bb k (A.under (.builtin "type.__call__" ⟨.ref C::us,kw⟩)):=
 ⟨r.hd,by have:=r.dp;rw[W7];omega,by have:=r.un;rw[W8];omega,WH r.gd⟩
theorem bb.depth {k:Nat} (r:bb k A):A.depth < recursionLimit:=by have:=r.dp;omega
theorem bb.units {k:Nat} (r:bb k A):A.units+64 < cLine:=by have:=r.un;omega
def pL:TA:=fun _ H Q=>Q [] H
def Ap (ta:TE) (tr:TA):TA:=fun σ H Q=>ta σ H fun x H1=>tr σ H1 fun xs H2=>Q (x::xs) H2
section
variable{t:TA}
theorem ah:PA X [] pL:=fun _ _ _ _ H Q I h=>Calls.spliced_nil ⟨[],H,I,.nil,h⟩
theorem ae (ha:PE X e te) (hr:PA X es t) (hs:starEach (e::es) X.env=(false,eval e X.env)::starEach es X.env:=by rfl):PA X (e::es) (Ap te t):=by
 intro pos pins s σ H Q I h;rw[hs];show wpAny _ _ (spliced ((false,eval e X.env)::backTo pos (starEach es X.env))) _ _ s;refine Calls.spliced_cons (aw (ha pins s σ H _ I h) fun u s1 ⟨x,H1,I1,r1,q1⟩=>?_);exact aw (hr pos pins s1 σ H1 _ I1 q1) fun us s2 ⟨xs,H2,I2,r2,q2⟩=>⟨x::xs,H2,I2,.cons r1 r2,q2⟩
def PM (t:TA):TE:=fun σ H Q=>t σ H fun xs H1=>xs.length<=sizeLine /\ ∀p,H1 p=none->Q (.ref p) (upd H1 p (.tup xs))
def wV (t:TA):TE:=fun σ H Q=>t σ H fun xs H1=>xs.length<=sizeLine /\ ∀p,H1 p=none->Q (.ref p) (upd H1 p (.lst xs))
theorem bJ {x1} (h:PA X es t):PE X (.Tuple es x1 pos) (PM t):=by
 intro pins s σ H Q I hq;refine wpAny_Tuple_spliced (aw (h pos pins s σ H _ I hq) fun us s1 ⟨xs,H1,I1,r,z,q⟩=>⟨by rw[<-r.length];exact z,?_⟩)
 have hf:H1 s1.heap.objs.size=none:=I1.au.fresh (aP _);refine⟨.ref s1.heap.objs.size,upd H1 s1.heap.objs.size (.tup xs),I1.laid (t':=s1.toks) (fun b u e=>a8 _ e) (aP _) ?_,rfl,q _ hf⟩;exact⟨z,us,r,⟨_,cp _ rfl,rfl,_,rfl,rfl⟩⟩
theorem dQ (h:PA X es t):PE X (.List es pos) (wV t):=by
 intro pins s σ H Q I hq;refine wpAny_List_spliced (aw (h pos pins s σ H _ I hq) fun us s1 ⟨xs,H1,I1,r,z,q⟩=>⟨by rw[<-r.length];exact z,?_⟩)
 have hf:H1 s1.heap.objs.size=none:=I1.au.fresh (aP _);refine⟨.ref s1.heap.objs.size,upd H1 s1.heap.objs.size (.lst xs),I1.laid (t':=s1.toks) (fun b u e=>a8 _ e) (aP _) ?_,rfl,q _ hf⟩;exact⟨z,us,0,r,cp _ rfl⟩
end
abbrev Sp:=List V->Hp->VK->XK->Prop
end L2
variable{sp:L2.Sp}
namespace L2
open PySem PySem.Spec PyProof.Rows
abbrev j6:=List Env->Hp->Shared->XK->Value->Shared->Prop
structure rF (P:Program) (w:World) (K:PySem.W.Frag) (mg:Str->Option Value) (base:Heap) (A:Around) (outer:List Env) (s:Shared) (H:Hp):Prop where
 frames:A.frames=some outer
 mod:Mod K mg base
 bs:∀b o,base.get? b=some o->s.heap.get? b=some o/\H b=none
 lH:base.objs.size<=s.heap.objs.size
 iB:s.heap.FunFrames base outer
 mI:∀b∈f9 outer,H b=none
 au:cR P w H s.heap
 bare:AllBare s.gens
def CE (outer:List Env) (P:Program) (w:World) (H:Hp) (s:Shared) (Q:VK) (u:Value) (s':Shared):Prop:=
 ∃v H',s'.os=s.os/\AllBare s'.gens/\Un (f9 outer) [] H H' s.heap s'.heap/\cR P w H' s'.heap/\RelV v u/\Q v H'
def CR (CX:j6) (outer:List Env) (P:Program) (w:World) (H:Hp) (s:Shared) (Q:VK) (E:XK) (r:Result) (s':Shared):Prop:=
 match r with
 |.ok (.ret u)=>CE outer P w H s Q u s'
 |.ok _=>False
 |.error e=>CX outer H s E e s'
structure aS (P:Program) (w:World) (K:PySem.W.Frag) (mg:Str->Option Value) (base:Heap) (CX:j6) (k:Nat) (f:Addr) (fd:FuncData) (ps:List Str) (sp:Sp):Prop where
 len:∀vs H Q E,sp vs H Q E->vs.length=ps.length
 run:∀ (A:Around) (outer:List Env) (s:Shared) (H:Hp) (args:Args) (us:List Value) (vs:List V) (Q:VK) (E:XK),bb k A->rF P w K mg base A outer s H->BindsTo s fd args (ps.zip us)->Vals vs us->sp vs H Q E ->
  codeAny (model P w) A (.call (.ref f) args) (CR CX outer P w H s Q E) s
theorem rF.make (e:rF P w K mg base A outer s H) (C:Addr) (us:List Value) (kw:List (Str×Value)) :
  rF P w K mg base (A.under (.builtin "type.__call__" ⟨.ref C::us,kw⟩)) outer s H:=⟨by first|exact e.frames|(simpa [Around.under,Code.envs,Code.isFrame,pushEnvs] using e.frames),e.mod,e.bs,e.lH,e.iB,e.mI,e.au,e.bare⟩
theorem Inv.AM (I:Inv X pins σ H s):rF X.prog X.w X.K X.mg X.base X.A X.stack s H:=
 ⟨I.ok.frames,I.ok.mod,I.bs,fw I.ok.lH I.sz,I.stack,I.Er,I.au,I.bare⟩
theorem Inv.after {Q:VK} (I:Inv X pins σ H s) (h:CE X.stack X.prog X.w H s Q u s'):EP X pins σ Q u s':=by
 obtain⟨v,H',os,bare,un,au,r,q⟩:=h;obtain⟨hh,g,d,t,xF⟩:=s';obtain rfl:xF=s.os:=os;exact⟨v,H',I.call (h':=hh) (g':=g) (d':=d) (t':=t) (ch:= []) un au bare (fun b z=>absurd z (by simp)),r,q⟩
def Aq (sp:Sp) (gp:List V) (E:XK) (t:TA):TE:=fun σ H Q=>t σ H fun vs H1=>sp (vs++gp) H1 Q E
def OV (C:Addr) (m:Str) (sp:Sp) (gp:List V) (E:XK) (ta:TE) (t:TA):TE:=fun σ H Q=>ta σ H fun x H1=>∃a dx fs,x = .ref a/\H1 a=some (.ins C dx fs)/\fs.lookup m=none /\
 t σ H1 fun vs H2=>sp (x::(vs++gp)) H2 Q E
def abN (C:Addr) (sp:Sp) (gp:List V) (E:XK) (t:TA):TE:=fun σ H Q=>t σ H fun vs H1=>∀x dx,H1 x=none->H1 dx=none->dx≠x ->
 sp (.ref x::(vs++gp)) (upd (upd H1 dx (.own x)) x (.ins C dx [])) (fun v H2=>v = .aF/\Q (.ref x) H2) E
def Binds (K:PySem.W.Frag) (fd:FuncData) (ps:List Str) (ds:List Value):Prop:=
 ∀ (s:Shared) (us:List Value),K.In s.heap->(us++ds).length=ps.length->BindsTo s fd ⟨us,[]⟩ (ps.zip (us++ds))
theorem Binds.all (h:∀us:List Value,us.length=ps.length->bindArgs fd ⟨us,[]⟩=pure (ps.zip us)):Binds K fd ps []:=fun s us _ hl=>by
 rw[jM]at hl ⊢;exact .of_eq (h us hl)
def Passes (CX:j6) (X:Cx) (E:XK):Prop:= ∀ (pins:List (Addr×Obj)) (σ:St) (H:Hp) (s:Shared) (e:Value) (s':Shared),Inv X pins σ H s->CX X.stack H s E e s'->X.xe e s'
section
variable{CX:j6}{k:Nat}{gp:List V}{ds:List Value}{E:XK}{m:Str}{p:Pos}{o:Expr}{t:TA}
theorem EU {Q:VK} (F:aS X.prog X.w X.K X.mg X.base CX k f fd ps sp) (hr:bb k X.A) (hb:Binds X.K fd ps ds) (hd:Vals gp ds) (hx:Passes CX X E)
  (I:Inv X pins σ H s) (r:Vals vs us) (h:sp (vs++gp) H Q E):wpAny (model X.prog X.w) X.A (call (.ref f) us) (EP X pins σ Q) X.xe s:=by
 have r2:Vals (vs++gp) (us++ds):=r.append hd;have hl:(us++ds).length=ps.length:=by rw[<-r2.length];exact F.len _ _ _ _ h
 refine qH (sN (F.run X.A X.stack s H ⟨us,[]⟩ (us++ds) (vs++gp) Q E hr I.AM (hb s us I.bX hl) r2 h) fun r s' hq=>?_);cases r with
 |error e=>exact hx pins σ H s e s' I hq
 |ok fl =>
  cases fl with
  |ret u=>exact I.after hq
  |next=>exact False.elim hq
  |brk=>exact False.elim hq
  |cont=>exact False.elim hq
theorem iT (F:aS X.prog X.w X.K X.mg X.base CX k f fd ps sp) (hr:bb k X.A) (hg:Gl X x) (hm:X.mg x=some (.ref f)) (hk:PySem.W.keepIn X.K (.ref f)=true) (hb:Binds X.K fd ps ds) (hd:Vals gp ds) (hx:Passes CX X E)
  (ha:PA X (e::es) t) (cN:(x==("__debug__" : Str))=false:=by decide) (he:starEach (e::es) X.env=(false,eval e X.env)::starEach es X.env:=by rfl) (cS:(backTo pos (starEach es X.env)).any (·.1)=false:=by rfl) :
  PE X (.Call (.Name x p) (e::es) [] pos) (Aq sp gp E t):=by
 intro pins s σ H Q I h;refine ze (tR I hg hm ?_ cN);refine Vf (h₀:=X.base) I.ok.mod.rT hk (aw (ha pos pins s σ H _ I h) fun us s1 ⟨vs,H1,I1,r,q⟩=>⟨I1.bX,?_⟩) he cS;exact EU F hr hb hd hx I1 r q
theorem ll {pl:Sem Bool} (he:PE X o ta) (c:jy X.K C) (hm:Meth X.K C m f) (F:aS X.prog X.w X.K X.mg X.base CX k f fd ps sp) (hr:bb k X.A) (hb:Binds X.K fd ps ds) (hd:Vals gp ds) (hx:Passes CX X E) (ha:PA X (e::es) t)
  (fj:starEach (e::es) X.env=(false,eval e X.env)::starEach es X.env:=by rfl) (cS:(backTo pos (starEach es X.env)).any (·.1)=false:=by rfl)
  (ht:eval (.Call (.Attribute o m apos) (e::es) [] pos) X.env=(do
   let ov <- eval o X.env
   standAt apos.atName
   let (f,first) <- holding [ov] (getMethod ov m pl)
   callWith pos f first (backTo pos (starEach (e::es) X.env)) (backToKw pos (keywordEach [] X.env))):=by rfl) :
  PE X (.Call (.Attribute o m apos) (e::es) [] pos) (OV C m sp gp E ta t):=by
 intro pins s σ H Q I h;refine ans (pl:=pl) (aw (he pins s σ H _ I h) fun u s1 ⟨x,H1,I1,rx,a,dx,fs,ex,ea,l,q⟩=>?_) ht;subst ex;obtain rfl:u=Value.ref a:=rx;refine LR I1 ea c hm l ?_;refine Vf (first:= [.ref a]) (h₀:=X.base) I.ok.mod.rT hm.kp (aw (ha pos pins s1 σ H1 _ I1 q) fun us s2 ⟨vs,H2,I2,r,q2⟩=>⟨I2.bX,?_⟩) fj cS;exact EU (us:= .ref a::us) (vs:= .ref a::vs) F hr hb hd hx I2 (.cons rfl r) q2
theorem YF {pl:Sem Bool} (he:PE X o ta) (c:jy X.K C) (hm:Meth X.K C m f) (F:aS X.prog X.w X.K X.mg X.base CX k f fd ps sp) (hr:bb k X.A) (hb:Binds X.K fd ps ds) (hd:Vals gp ds) (hx:Passes CX X E)
  (ht:eval (.Call (.Attribute o m apos) [] [] pos) X.env=(do
   let ov <- eval o X.env
   standAt apos.atName
   let (f,first) <- holding [ov] (getMethod ov m pl)
   callWith pos f first (backTo pos (starEach [] X.env)) (backToKw pos (keywordEach [] X.env))):=by rfl) :
  PE X (.Call (.Attribute o m apos) [] [] pos) (OV C m sp gp E ta pL):=by
 intro pins s σ H Q I h;refine ans (pl:=pl) (aw (he pins s σ H _ I h) fun u s1 ⟨x,H1,I1,rx,a,dx,fs,ex,ea,l,q⟩=>?_) ht;subst ex;obtain rfl:u=Value.ref a:=rx;refine LR I1 ea c hm l ?_;exact PySem.W.callWith_K0 (first:= [.ref a]) I1.bX hm.kp (EU (us:= [.ref a]) (vs:= [.ref a]) F hr hb hd hx I1 (.cons rfl .nil) q)
structure Mk (K:PySem.W.Frag) (C f:Addr):Prop where
 makes:PySem.W.makesIn K C=true
 init:PySem.W.findIn K (.ref C) "__init__" = some (some (.ref f))
 fn:PySem.W.isFn K (.ref f)=true
 kp:PySem.W.keepIn K (.ref C)=true
theorem YG {Q:VK} (M:Mk X.K C f) (F:aS X.prog X.w X.K X.mg X.base CX k f fd ps sp) (hr:bb (k+1) X.A) (hb:Binds X.K fd ps ds) (hd:Vals gp ds)
  (hx:Passes CX X E) (I:Inv X pins σ H s) (r:Vals vs us)
  (h:∀x dx,H x=none->H dx=none->dx≠x->sp (.ref x::(vs++gp)) (upd (upd H dx (.own x)) x (.ins C dx [])) (fun v H2=>v = .aF/\Q (.ref x) H2) E) :
  wpAny (model X.prog X.w) X.A (call (.ref C) us) (EP X pins σ Q) X.xe s:=by
 have hq:=h (s.heap.objs.size+1) s.heap.objs.size (I.au.fresh (jN _)) (I.au.fresh (aP _)) (bx (qG _));have I2:=Inv.made (C:=C) I;have r2:Vals (V.ref (s.heap.objs.size+1)::(vs++gp)) (Value.ref (s.heap.objs.size+1)::(us++ds)):= .cons rfl (r.append hd);have hl:(Value.ref (s.heap.objs.size+1)::us++ds).length=ps.length:=by
  have e:=r2.length;rw[F.len _ _ _ _ hq]at e;exact e.symm
 refine qH (YE (f:=f) I.bX M.makes M.init (eV.mp M.fn) (sN (F.run _ X.stack _ _ ⟨Value.ref (s.heap.objs.size+1)::us,[]⟩ (Value.ref (s.heap.objs.size+1)::(us++ds)) _ _ E (hr.make C us [])
  (I2.AM.make C us []) (hb _ (Value.ref (s.heap.objs.size+1)::us) I2.bX hl) r2 hq) fun r s' oB=>?_))
 cases r with
 |error e=>exact hx pins σ _ _ e s' I2 oB
 |ok fl =>
  cases fl with
  |ret u =>
   obtain⟨v,H',I3,rv,ev,q3⟩:=I2.after oB;subst ev;exact⟨rv,⟨V.ref (s.heap.objs.size+1),H',I3,rfl,q3⟩⟩
  |next=>exact False.elim oB
  |brk=>exact False.elim oB
  |cont=>exact False.elim oB
theorem Es (M:Mk X.K C f) (F:aS X.prog X.w X.K X.mg X.base CX k f fd ps sp) (hr:bb (k+1) X.A) (hg:Gl X x) (hm:X.mg x=some (.ref C)) (hb:Binds X.K fd ps ds) (hd:Vals gp ds) (hx:Passes CX X E)
  (ha:PA X (e::es) t) (cN:(x==("__debug__" : Str))=false:=by decide) (he:starEach (e::es) X.env=(false,eval e X.env)::starEach es X.env:=by rfl) (cS:(backTo pos (starEach es X.env)).any (·.1)=false:=by rfl) :
  PE X (.Call (.Name x p) (e::es) [] pos) (abN C sp gp E t):=by
 intro pins s σ H Q I h;refine ze (tR I hg hm ?_ cN);refine Vf (h₀:=X.base) I.ok.mod.rT M.kp (aw (ha pos pins s σ H _ I h) fun us s1 ⟨vs,H1,I1,r,q⟩=>⟨I1.bX,?_⟩) he cS;exact YG M F hr hb hd hx I1 r q
end
structure bF (N P:List Str) (sc:Scope):Prop where
 kind:sc.kind = .function
 co:sc.isCoroutine=false
 gen:sc.isGenerator=false
 nd:N.Nodup
 pre:N.take P.length=P
 par:∀x∈P,sc.names.lookup x=some .local\/sc.names.lookup x=some .cell
 aaV:∀y∈sc.names,y.2 ≠ .free
theorem Mh {kindOf:Str->Option NameKind}{x:Str}:∀ {binds:List (Str×Value)}{m:Str->Option Value},(∀v,(x,v) ∉ binds)->bindL kindOf binds m x=m x
 |[],_,_=>rfl
 |(n,v)::r,m,h=>by
  unfold bindL;rw[Mh fun w hw=>h w (bq _ hw)];split
  ·have:x≠n:=by rintro rfl;exact h v aW
   simp[this]
  ·rfl
theorem Mi {kindOf:Str->Option NameKind}{x:Str}:∀ {binds:List (Str×Value)}{m:Str->Option Value},(∀v,(x,v) ∉ binds)->bindC kindOf binds m x=m x
 |[],_,_=>rfl
 |(n,v)::r,m,h=>by
  unfold bindC;rw[Mi fun w hw=>h w (bq _ hw)];split
  ·rfl
  ·have:x≠n:=by rintro rfl;exact h v aW
   simp[this]
theorem Mj {kindOf:Str->Option NameKind}{x:Str}{v:Value}:∀ {P:List Str}{vs:List Value}{i:Nat}{m:Str->Option Value},P.Nodup->P[i]? = some x->vs[i]? = some v->kindOf x=some .local ->
  bindL kindOf (P.zip vs) m x=some v
 |[],_,_,_,_,h,_,_=>by simp at h
 |_::_,[],_,_,_,_,h,_=>by simp at h
 |p::P,w::vs,0,m,nd,h1,h2,hk=>by
  simp at h1 h2;subst h1;subst h2;show bindL kindOf ((p,w)::P.zip vs) m p=_;unfold bindL;rw[Mh fun v hv=>(g8.mp nd).1 (Vg hv).1,ax hk];simp
 |p::P,w::vs,i+1,m,nd,h1,h2,hk=>by
  show bindL kindOf ((p,w)::P.zip vs) m x=_;unfold bindL;exact Mj (i:=i) (g8.mp nd).2 (by simpa using h1) (by simpa using h2) hk
theorem Ml {kindOf:Str->Option NameKind}{x:Str}{v:Value}:∀ {P:List Str}{vs:List Value}{i:Nat}{m:Str->Option Value},P.Nodup->P[i]? = some x->vs[i]? = some v->kindOf x≠some .local ->
  bindC kindOf (P.zip vs) m x=some v
 |[],_,_,_,_,h,_,_=>by simp at h
 |_::_,[],_,_,_,_,h,_=>by simp at h
 |p::P,w::vs,0,m,nd,h1,h2,hk=>by
  simp at h1 h2;subst h1;subst h2;show bindC kindOf ((p,w)::P.zip vs) m p=_;unfold bindC;rw[Mi fun v hv=>(g8.mp nd).1 (Vg hv).1,aj hk];simp
 |p::P,w::vs,i+1,m,nd,h1,h2,hk=>by
  show bindC kindOf ((p,w)::P.zip vs) m x=_;unfold bindC;exact Ml (i:=i) (g8.mp nd).2 (by simpa using h1) (by simpa using h2) hk
def start (N:List Str) (vs:List V):St:=vs.map some++List.replicate (N.length - vs.length) none
def gm (CX:j6) (P:Program) (w:World) (K:PySem.W.Frag) (mg:Str->Option Value) (base:Heap) (N:List Str) (qual:Str) (scope:Scope) (f:Addr) (cd:Value) (A:Around) (outer:List Env) (s:Shared) (H:Hp) (E:XK):Cx where
 prog:=P
 w:=w
 K:=K
 mg:=mg
 base:=base
 A:=A.deeper (envOfC qual scope s.heap.objs.size f cd)
 N:=N
 eG:=s
 my:=H
 env:=envOfC qual scope s.heap.objs.size f cd
 outer:=outer
 stack:=envOfC qual scope s.heap.objs.size f cd::outer
 ex:= []
 calm:=true
 fn:=fun _=>true
 pn:= []
 xe:=fun e s'=>wpAny (model P w) (A.deeper (envOfC qual scope s.heap.objs.size f cd)) (leaving (envOfC qual scope s.heap.objs.size f cd) e) (fun _ r8=>CX outer H s E e r8) (fun e' r8=>CX outer H s E e' r8) s'
theorem D5 (h:sc.names.lookup x=some .cell):∃c,(cellsFrom n sc.names []).lookup x=some c:=by
 have q:=ant sc.names n [] (.inl h);exact Vh.mp q
theorem XQ {CX:j6}{E:XK}
  (S:bF N ps scope) (hd:A.handled=none) (e0:rF P w K mg base A outer s H) (hl:vs.length=ps.length) (r:Vals vs us)
  (x:InCallC s s.heap.objs.size (bindL (envOfC qual scope s.heap.objs.size f cd).kindOf (ps.zip us) fun _=>none) (cellsFrom (s.heap.objs.size+1) scope.names []) (bindC (envOfC qual scope s.heap.objs.size f cd).kindOf (ps.zip us) fun _=>none) s1) :
  Inv (gm CX P w K mg base N qual scope f cd A outer s H E) [] (start N vs) H s1:=by
 have cS:ps.length<=N.length:=by have:=eU List.length S.pre;rw[eJ]at this;omega
 obtain⟨h1,tk,rfl,hk⟩:=x.done;have xG:∀b:Addr,b ∉ (gm CX P w K mg base N qual scope f cd A outer s H E).ex:=fun b z=>absurd (show b∈([]:List Addr) from z) (by simp)
 refine⟨⟨e0.mod,S.kind,rfl,rfl,aP _,fun y z c h1 h2=>?_,fun y hy=>?_,fun y c _ h=>?_,fun _=>hd,Around.frames_deeper e0.frames,.inr ⟨rfl,rfl⟩,fun b z=>absurd z (xG b),e0.bs,e0.lH,fun b _ _=>xG b,fun b z=>absurd z (xG b),e0.iB,e0.mI⟩,
  rfl,e0.bare,Un.kept hk,⟨_,x.toInCall.ns,fun i y v h1 h2 h3=>?_⟩,fun y c h=>⟨_,x.cell y c h⟩,e0.au.fresh (aP _),fun y c h=>?_,fun p hp=>absurd (show p∈([]:List (Addr×Obj)) from hp) (by simp),e0.au.kept hk,?_⟩
 ·exact name_of_addr x.apart (oW h1) (oW h2)
 ·have hy:scope.names.lookup y=some .cell\/scope.names.lookup y=some .free:=hy
  rcases hy with hy|hy
  ·exact D5 hy
  ·exact absurd rfl (S.aaV _ (oW hy))
 ·exact C7 (x.above y c (oW h))
 ·have hi:i < vs.length:=by
   unfold start at h2
   by_cases hi:i < vs.length
   ·exact hi
   ·rw[anu (by simpa using hi)]at h2
    rw[List.getElem?_replicate]at h2;split at h2 <;> cases h2
  have ha:vs[i]? = some v:=by
   unfold start at h2;rw[List.getElem?_append_left (by simpa using hi),jk]at h2
   cases e:vs[i]? with
   |none=>rw[e]at h2;cases h2
   |some a=>rw[e]at h2;cases h2;rfl
  obtain⟨u,hu,rv⟩:=r.get ha;have hp:ps[i]? = some y:=by
   rw[<-S.pre,List.getElem?_take_of_lt (by omega)];exact h1
  have RL:ps.Nodup:=by rw[<-S.pre];exact S.nd.sublist (KW _ _)
  refine⟨u,rv,?_⟩;rcases S.par y (kX hp) with k|k
  ·exact .inl ⟨k,Mj RL hp hu k⟩
  ·obtain⟨c,e⟩:=D5 (n:=s.heap.objs.size+1) k
   refine .inr ⟨.inl k,c,e,?_⟩;have q:=x.cell y c e;rw[Ml RL hp hu (by show scope.names.lookup y≠_;rw[k];decide)]at q
   exact q
 ·exact e0.au.fresh (C7 (x.above y c (oW h)))
 ·unfold start
  show _=N.length;rw[dz,aJ,anv];omega
theorem Ff {CX:j6}{k:Nat}{params:Arguments}{dV kV:Value} (lk:K.lookup f=some ⟨oc,od,.func (PySem.W.fnOf name qual params body scope dV kV doc pm an aH ct),iZ⟩) (fg:PySem.W.codeIn K aH qual=true) (S:bF N ps scope)
  (len:∀vs H Q E,sp vs H Q E->vs.length=ps.length)
  (rA:∀ (A:Around) (outer:List Env) (s:Shared) (H:Hp) (vs:List V) (Q:VK) (E:XK),bb k (A.deeper (envOfC qual scope s.heap.objs.size f aH))->sp vs H Q E ->
   ∃t,ff (gm CX P w K mg base N qual scope f aH A outer s H E) body t/\t { nx:=fun _ H'=>Q .aF H',rt:=Q } (start N vs) H) :
  aS P w K mg base CX (k+1) f (PySem.W.fnOf name qual params body scope dV kV doc pm an aH ct) ps sp:=by
 refine⟨len,fun A outer s H args us vs Q E hr e0 hb r gR=>?_⟩;have hl:=len _ _ _ _ gR;have KX:K.In s.heap:=e0.mod.rT.keeps fun b o e=>(e0.bs b o e).1;have lim:s.heap.NoLimit:=e0.mod.nolimit.keeps fun b o e=>(e0.bs b o e).1;have abO:∀y∈ps.zip us,scope.names.lookup y.1=some .local\/(scope.names.lookup y.1=some .cell/\((cellsFrom (s.heap.objs.size+1) scope.names []).lookup y.1).isSome=true):=fun⟨n,v⟩ hy=>by
  rcases S.par n (Vg hy).1 with q|q
  ·exact .inl q
  ·exact .inr ⟨q,ant _ _ _ (.inl q)⟩
 refine codeAny_call_function hr.depth (KX _ _ lk) rfl S.co S.gen rfl (PySem.W.codeRec_of KX fg) (hb _ _ _ _ ?_);refine wpAny_newFunctionEnv_cells S.kind abO fun env he s1 x=>?_;subst he;refine⟨lim.keeps x.toInCall.keep,codeAny_func ?_⟩;obtain⟨t,ht,hq⟩:=rA A outer s H vs Q E (hr.deeper _) gR;have I:Inv (gm CX P w K mg base N qual scope f aH A outer s H E) [] (start N vs) H s1:=XQ S hr.hd e0 hl r x;refine lZ (ht [] s1 (start N vs) H _ I hq) (fun fl s' hs=>?_) fun e s' hs=>hs;have fin:∀ {aK:St}{H':Hp}{v:V}{u:Value},Inv (gm CX P w K mg base N qual scope f aH A outer s H E) [] aK H' s'->RelV v u->Q v H'->CE outer P w H s Q u s':=
  fun {aK H' v u} J rv q=>⟨v,H',J.os,J.bare,J.base,J.au,rv,q⟩
 cases fl with
 |ret u =>
  obtain⟨v,aK,H',J,rv,q⟩:=hs;exact fin J rv q
 |next =>
  obtain⟨aK,H',J,q⟩:=hs;exact fin (v:=V.aF) (u:=Value.none) J rfl q
 |brk =>
  obtain⟨_,_,_,q⟩:=hs;exact False.elim q
 |cont =>
  obtain⟨_,_,_,q⟩:=hs;exact False.elim q
section
variable{p:Pos}{t:TA}{id:String}{r:List V->Hp->VK->Prop}
def RM (r:List V->Hp->VK->Prop) (t:TA):TE:=fun σ H Q=>t σ H fun vs H1=>r vs H1 Q
theorem fZ (hc:eu X (.builtin id) r) (hg:Gl X x) (hm:X.mg x=none) (hv:bootBuiltins x=some (.builtin id)) (ha:PA X (e::es) t) (hn:x ≠ "__name__" :=by decide) (cN:(x==("__debug__" : Str))=false:=by decide)
  (he:starEach (e::es) X.env=(false,eval e X.env)::starEach es X.env:=by rfl) (cS:(backTo pos (starEach es X.env)).any (·.1)=false:=by rfl):PE X (.Call (.Name x p) (e::es) [] pos) (RM r t):=by
 intro pins s σ H Q I h;refine ze (vZ I hg hm hv ?_ hn cN);exact anw (aw (ha pos pins s σ H _ I h) fun us s1 ⟨vs,H1,I1,r1,q1⟩=>hc pins s1 σ H1 vs us Q I1 r1 q1) he cS
theorem gF (hc:eu X (.type T) r) (hg:Gl X x) (hm:X.mg x=none) (hv:bootBuiltins x=some (.type T)) (ha:PA X (e::es) t) (hn:x ≠ "__name__" :=by decide) (cN:(x==("__debug__" : Str))=false:=by decide)
  (he:starEach (e::es) X.env=(false,eval e X.env)::starEach es X.env:=by rfl) (cS:(backTo pos (starEach es X.env)).any (·.1)=false:=by rfl):PE X (.Call (.Name x p) (e::es) [] pos) (RM r t):=by
 intro pins s σ H Q I h;refine ze (vZ I hg hm hv ?_ hn cN);exact Vd (aw (ha pos pins s σ H _ I h) fun us s1 ⟨vs,H1,I1,r1,q1⟩=>hc pins s1 σ H1 vs us Q I1 r1 q1) he cS
end
end L2
namespace HT
open PySem PyProof.Rows
section
open PySem.SeqAt
open PySem.AutoSeq1 (wpAny_loadPart')
open PySem.MeetsSeq PySem.MeetsSeq2 PySem.MeetsSeq3
end
theorem ZJ {t:Addr}{vs ws:List Value} (ht:IsTup s.heap t vs.toArray) (hb:IsTup s.heap b ws.toArray) (hv:vs ≠ [])
  (h1:ws = []->Q (.ref t) s) (h2:ws ≠ []->Q (.ref s.heap.objs.size) { s with heap:=s.heap.push { cls:= .type "tuple",data:= .seq (vs++ws).toArray } })
  (hsz:vs.length+ws.length<=sizeLine):wpAny (model prog w) A (binaryOp .Add (.ref t) (.ref b)) Q E s:=by
 obtain⟨⟨cls,dd,data,sl⟩,ho,hc,n,hd⟩:=id ht;obtain⟨⟨PN,BQ,data2,BR⟩,i8,gT,n2,hd2⟩:=id hb;simp only at hc hd gT hd2;subst hc hd gT hd2;have e:vs.toArray++ws.toArray=(vs++ws).toArray:=by simp
 by_cases hw:ws = []
 ·exact concat_meets ⟨_,ho,rfl⟩ ⟨_,i8,rfl⟩ Vj Vk Vl Vm (Vn _ _)
   (tuple_addW1 t b vs.toArray ws.toArray n n2 dd BQ sl BR (by simpa using hv) (by simp[hw])) ⟨ho,i8,h1 hw⟩
 ·refine concat_meets ⟨_,ho,rfl⟩ ⟨_,i8,rfl⟩ Vj Vk Vl Vm (Vn _ _)
   (tuple_addW2 t b vs.toArray ws.toArray n n2 dd BQ sl BR (by simpa using hv) (by simpa using hw) (by rw[b8,b8];exact hsz)) ⟨ho,i8,?_⟩
  rw[e];exact h2 hw
def bc (n d:Nat):Option Int->Nat
 |none=>d
 |some v=>if v < 0 then (v+(n:Int)).toNat else min v.toNat n
theorem YH (n d:Nat):bc n d none=d:=rfl
theorem ZK (n d k:Nat):bc n d (some (k:Int))=min k n:=by
 show(if (k:Int) < 0 then ((k:Int)+(n:Int)).toNat else min (k:Int).toNat n)=min k n;rw[aj (by omega),oX]
theorem aaW (n d:Nat) (hd:d<=n) (o:Option Int):bc n d o<=n:=by
 cases o with
 |none=>exact hd
 |some v =>
  show(if v < 0 then (v+(n:Int)).toNat else min v.toNat n)<=n
  by_cases hv:v < 0
  ·rw[ax hv];omega
  ·rw[aj hv];exact Nat.min_le_right _ _
theorem NZ (v:Int) (n d:Nat):(if v < 0 then max (v+(n:Int)) 0 else min v (n:Int))=((bc n d (some v):Nat):Int):=by
 show(if v < 0 then max (v+(n:Int)) 0 else min v (n:Int))=(((if v < 0 then (v+(n:Int)).toNat else min v.toNat n):Nat):Int)
 by_cases hv:v < 0
 ·simp only[ax hv];omega
 ·simp only[aj hv];omega
theorem W9 (lo hi:Option Int) (n:Nat):Builtin.Slice.sliceAdjust lo hi 1 (n:Int)=(((bc n 0 lo:Nat):Int),((bc n n hi:Nat):Int)):=by
 have h1 : ¬ ((1:Int) < 0):=by omega
 unfold Builtin.Slice.sliceAdjust;simp only[h1,ir];refine Prod.ext ?_ ?_
 ·cases lo with
  |none=>rfl
  |some v=>exact NZ v n 0
 ·cases hi with
  |none=>rfl
  |some v=>exact NZ v n n
theorem W' (i j:Nat):Builtin.Slice.slicePlaces (i:Int) (j:Int) 1=j - i:=by
 unfold Builtin.Slice.slicePlaces;have h1:(1:Int) > 0:=by omega
 simp only[h1,kA,Int.ediv_one];split <;> omega
theorem LU {v:Value}{o:Option Int}{Q:Option Int->Shared->Prop} (p:IsPart v o) (h:Q o s):wpAny (model prog w) A (Builtin.Slice.slicePartIndex v) Q E s:=by
 cases p with
 |none=>exact slicePart_none h
 |int i t=>exact slicePart_int h
theorem Lx {lo:Option Int}{Q:Int×Int×Nat->Shared->Prop} (hs:s.heap.IsSliceOf sl vl vu .none) (pl:IsPart vl lo) (pu:IsPart vu hi)
  (h:Q (((bc n 0 lo:Nat):Int),1,bc n n hi - bc n 0 lo) s):wpAny (model prog w) A (Builtin.Slice.sliceApplied (.ref sl) (pure (n:Int))) Q E s:=by
 obtain⟨os,r9,sd,se⟩:=id hs;unfold Builtin.Slice.sliceApplied Builtin.Slice.sliceFields;refine aa (aa (sO r9 se (x:=vl) rfl (aa (sO r9 se (x:=vu) rfl (aa (sO r9 se (x:= .none) rfl (ai ?_)))))));refine aa (slicePart_none ?_);show wpAny _ _ (if ((1:Int)==0)=true then _ else _) _ _ s;rw[aj (by decide)]
 refine aa (LU pl (aa (LU pu (aa (ai ?_)))));show wpAny _ _ (match Builtin.Slice.sliceAdjust lo hi 1 (n:Int) with|(lo,hi)=>pure (lo,(1:Int),Builtin.Slice.slicePlaces lo hi 1)) _ _ s;rw[W9 lo hi n];show wpAny _ _ (pure (((bc n 0 lo:Nat):Int),(1:Int),Builtin.Slice.slicePlaces ((bc n 0 lo:Nat):Int) ((bc n n hi:Nat):Int) 1)) _ _ s;rw[W'];exact ai h
theorem YI (xs:Array Value) (i k:Nat):((List.range k).filterMap fun(m:Nat)=>xs[((i:Int)+(m:Int) * 1).toNat]?).toArray=((xs.toList.drop i).take k).toArray:=by
 have e:(fun(m:Nat)=>xs[((i:Int)+(m:Int) * 1).toNat]?)=fun m=>xs[i+m]?:=by
  funext m
  have:((i:Int)+(m:Int) * 1).toNat=i+m:=by omega
  rw[this]
 rw[e];have:=pick_run xs i k;rw[List.filterMap_map]at this;have e2:((fun x=>xs[x]?) ∘ fun x=>i+x)=fun m=>xs[i+m]?:=rfl;rw[e2]at this;rw[this]
theorem V8 {t:Addr}{lo:Option Int} (ht:IsTup s.heap t items) (hs:s.heap.IsSliceOf sl vl vu .none) (pl:IsPart vl lo) (pu:IsPart vu hi)
  (hw : ¬ (bc items.size 0 lo=0/\bc items.size items.size hi=items.size))
  (h:Q (.ref s.heap.objs.size) { s with heap:=s.heap.push { cls:= .type "tuple",data:= .seq ((items.toList.drop (bc items.size 0 lo)).take (bc items.size items.size hi - bc items.size 0 lo)).toArray } })
  (hsz:items.size<=sizeLine):wpAny (model prog w) A (getItem (.ref t) (.ref sl)) Q E s:=by
 have Ar:sizeOk (.seq ((items.toList.drop (bc items.size 0 lo)).take (bc items.size items.size hi - bc items.size 0 lo)).toArray):=by
  show((items.toList.drop (bc items.size 0 lo)).take (bc items.size items.size hi - bc items.size 0 lo)).toArray.size<=sizeLine;rw[b8,eJ,vn,jj];omega
 have hj:bc items.size items.size hi<=items.size:=aaW _ _ (aP _) hi;obtain⟨os,r9,sd,se⟩:=id hs;have IF:s.TypeIs (.ref sl) "slice" :=⟨os,r9,sd⟩;unfold getItem
 try with_reducible refine eI ?_
 first|refine aa (ai ?_)|skip
 refine aa (wpAny_sequenceKey ht.typeIs (by decide) ?_)
 refine aa (C9 (name:=Str.ofString "__getitem__") ht.typeIs zf
  (md zf ht.typeIs entry_tuple_getitem ?_ (args_tuple_getitem _ _)))
 show wpAny _ _ (Builtin.Tuple.tupleItemsOf (.ref t) >>= _) _ _ s;refine aa (tupleItemsOf_ ht ?_);refine aa (oY IF ?_);rw[ax (by decide)]
 refine aa (Lx hs pl pu ?_);have gq : ¬ ((((bc items.size 0 lo:Nat):Int)==0 && (1:Int)==1 && (bc items.size items.size hi - bc items.size 0 lo)==items.size)=true):=by
  intro q;rw[nE,nE]at q;have q1:((bc items.size 0 lo:Nat):Int)=0:=eq_of_beq q.1.1;have q2:bc items.size items.size hi - bc items.size 0 lo=items.size:=eq_of_beq q.2;exact hw ⟨by omega,by omega⟩
 show wpAny _ _ (if (((bc items.size 0 lo:Nat):Int)==0 && (1:Int)==1 && (bc items.size items.size hi - bc items.size 0 lo)==items.size)=true then _ else _) _ _ s;rw[aj gq,YI]
 first
  |exact aa (m:=Builtin.Tuple.tupleExact _) (iP (ai ⟨_,rfl,ai h⟩) Ar)
  |exact aa (m:=Builtin.Tuple.tupleExact _) (iP (aa (ai (ai ⟨_,rfl,ai h⟩))) Ar)
  |exact aa (aa (m:=Builtin.Tuple.tupleExact _) (iP (ai (ai ⟨_,rfl,ai h⟩)) Ar))
  |exact aa (aa (m:=Builtin.Tuple.tupleExact _) (iP (ai ⟨_,rfl,ai h⟩) Ar))
end HT
namespace L2
open PySem PySem.Spec PyProof.Rows
abbrev TO:=St->Hp->(Option Int->Hp->Prop)->Prop
def PO (X:Cx) (e:Option Expr) (t:TO):Prop:=
 ∀ (pins:List (Addr×Obj)) (s:Shared) (σ:St) (H:Hp) (Q:Option Int->Hp->Prop),Inv X pins σ H s->t σ H Q ->
  wpAny (model X.prog X.w) X.A (evalPart e X.env) (fun u s'=>∃o H',Inv X pins σ H' s'/\IsPart u o/\Q o H') X.xe s
def ZL:TO:=fun _ H Q=>Q none H
def abP (t:TE):TO:=fun σ H Q=>t σ H fun x H1=>∃i,x = .int i/\Q (some i) H1
section
variable{lo hi:Option Expr}{tl th:TO}{p2:Pos}
theorem tT:PO X none ZL:=by
 intro pins s σ H Q I h;rw[evalPart_none];exact ai ⟨none,H,I,.none,h⟩
theorem tU (h:PE X e te):PO X (some e) (abP te):=by
 intro pins s σ H Q I hw;rw[evalPart_some];refine aw (h pins s σ H _ I hw) fun u s1 ⟨x,H1,I1,r1,q1⟩=>?_;obtain⟨i,rfl,q⟩:=q1;obtain⟨t,rfl⟩:=r1;exact⟨some i,H1,I1,.int i t,q⟩
def uL (X:Cx) (r:V->Option Int->Option Int->Hp->VK->Prop):Prop:=
 ∀ (pins:List (Addr×Obj)) (s:Shared) (σ:St) (H:Hp) (x:V) (v vl vu:Value) (lo hi:Option Int) (sl:Addr) (Q:VK),Inv X pins σ H s->RelV x v->s.heap.IsSliceOf sl vl vu .none->IsPart vl lo->IsPart vu hi->r x lo hi H Q ->
  ∃T id,typeLookup (.type T) "__getitem__" = pure (some (.builtin id))/\s.TypeIs v T/\wpAny (model X.prog X.w) X.A (getItem v (.ref sl)) (EP X pins σ Q) X.xe s
def tSl (r:V->Option Int->Option Int->Hp->VK->Prop) (te:TE) (tl th:TO):TE:=fun σ H Q=>te σ H fun x H1=>tl σ H1 fun l H2=>th σ H2 fun u H3=>r x l u H3 Q
theorem tM {r:V->Option Int->Option Int->Hp->VK->Prop} (hr:uL X r) (he:PE X e te) (hl:PO X lo tl) (hu:PO X hi th):PE X (.Subscript e (.Slice lo hi none p2) pos) (tSl r te tl th):=by
 intro pins s σ H Q I h;refine Subscript_ (aw (he pins s σ H _ I h) fun v s1 ⟨x,H1,I1,r1,q1⟩=>?_);refine wpAny_Slice (aw (hl pins s1 σ H1 _ I1 q1) fun vl s2 ⟨l,H2,I2,pl,q2⟩=>aw (hu pins s2 σ H2 _ I2 q2) fun vu s3 ⟨u,H3,I3,pu,q3⟩=>?_);rw[evalPart_none];refine ai ?_;have I4:Inv X pins σ H3 { s3 with heap:=s3.heap.push { cls:= .type "slice",data:= .fields #[vl,vu,.none] } }:=I3.kept (t':=s3.toks) fun b ob q=>a8 _ q;obtain⟨T,id,hT,ht,hg⟩:=hr pins { s3 with heap:=s3.heap.push { cls:= .type "slice",data:= .fields #[vl,vu,.none] } } σ H3 x v vl vu l u s3.heap.objs.size Q I4 r1 (Heap.IsSliceOf.new ..) pl pu q3;show wpAny (model X.prog X.w) X.A (subscriptTail e (.Slice lo hi none p2) v (.ref s3.heap.objs.size)) (EP X pins σ Q) X.xe { s3 with heap:=s3.heap.push { cls:= .type "slice",data:= .fields #[vl,vu,.none] } };exact tail_any (ops:= [.ref s3.heap.objs.size,v]) ht hT hg (by with_unfolding_all rfl)
def jW (xs:List V) (lo hi:Option Int):List V:=(xs.drop (HT.bc xs.length 0 lo)).take (HT.bc xs.length xs.length hi - HT.bc xs.length 0 lo)
theorem LK (xs:List V) (lo hi:Option Int):(jW xs lo hi).length<=xs.length:=by
 unfold jW;rw[eJ,vn];omega
def ado (K:PySem.W.Frag):V->Option Int->Option Int->Hp->VK->Prop:=fun x lo hi H Q=>∃a xs,x = .ref a/\aE K H a xs /\
 ¬ (HT.bc xs.length 0 lo=0/\HT.bc xs.length xs.length hi=xs.length) /\ ∀p,H p=none->Q (.ref p) (upd H p (.tup (jW xs lo hi)))
theorem aaX:uL X (ado X.K):=by
 intro pins s σ H x v vl vu lo hi sl Q I rx hs pl pu h;obtain⟨a,xs,rfl,hx,hw,q⟩:=h;cases rx
 obtain⟨its,r,ht,hz⟩:=I.tuple hx;have hlen:its.toArray.size=xs.length:=by rw[b8];exact r.length.symm
 refine⟨"tuple",_,zf.lookup,ht.typeIs,?_⟩;refine HT.V8 ht hs pl pu (by rw[hlen];exact hw) ?_ (by rw[hlen];exact hz)
 rw[hlen];refine⟨.ref s.heap.objs.size,_,I.laid (t':=s.toks) (o:= .tup (jW xs lo hi)) (fun b ob q=>a8 _ q) (aP _) ?_,rfl,q _ (I.au.fresh (aP _))⟩;exact⟨fw (LK xs lo hi) hz,_,(r.drop (HT.bc xs.length 0 lo)).take (HT.bc xs.length xs.length hi - HT.bc xs.length 0 lo),nV.new _ _⟩
def abQ (K:PySem.W.Frag):R2:=fun x y H Q=>∃a b xs ys,x = .ref a/\y = .ref b/\aE K H a xs/\aE K H b ys/\xs ≠ []/\xs.length+ys.length<=sizeLine /\
 (ys = []->Q (.ref a) H)/\(ys ≠ [] -> ∀p,H p=none->Q (.ref p) (upd H p (.tup (xs++ys))))
theorem Vals.Et (r:Vals xs us):us = [] ↔ xs = []:=by
 cases r with
 |nil=>simp
 |cons _ _=>simp
theorem ZM:cI X (binaryOp .Add) (abQ X.K):=by
 intro pins s σ H x y v u Q I rx ry h;obtain⟨a,b,xs,ys,rfl,rfl,ha,hb,hx,hz,q1,q2⟩:=h;cases rx
 cases ry
 obtain⟨its,r1,p1,_⟩:=I.tuple ha;obtain⟨nY,r2,p2,_⟩:=I.tuple hb;refine HT.ZJ p1 p2 (fun z=>hx (r1.Et.mp z)) (fun z=>⟨.ref a,H,I,rfl,q1 (r2.Et.mp z)⟩) (fun z=>?_) (by rw[<-r1.length,<-r2.length];exact hz)
 refine⟨.ref s.heap.objs.size,_,I.laid (t':=s.toks) (o:= .tup (xs++ys)) (fun b ob q=>a8 _ q) (aP _) ?_,rfl,q2 (fun w=>z (r2.Et.mpr w)) _ (I.au.fresh (aP _))⟩;exact⟨by rw[dz];exact hz,_,r1.append r2,nV.new _ _⟩
end
def oC (n:Nat) (i:Int):Option Nat:=if 0<=i then (if i < n then some i.toNat else none) else if -(n:Int)<=i then some (i+n).toNat else none
def cZ {α:Type} (xs:List α) (i:Int):Option α:=(oC xs.length i).bind fun j=>xs[j]?
theorem N0 {i:Int} (h:oC n i=some j):seqIndex? i n=some j/\j < n /\ -(n:Int)<=i/\i < n:=by
 unfold oC at h
 by_cases h0:0<=i
 ·rw[ax h0]at h
  by_cases h1:i < n
  ·rw[ax h1]at h
   have e:i.toNat=j:=gA h;exact⟨by rw[KY h0 h1,e],by omega,by omega,h1⟩
  ·rw[aj h1]at h;cases h
 ·rw[aj h0]at h
  by_cases h1 : -(n:Int)<=i
  ·rw[ax h1]at h
   have e:(i+n).toNat=j:=gA h;exact⟨by rw[seqIndex_neg (by omega) h1,e],by omega,h1,by omega⟩
  ·rw[aj h1]at h;cases h
theorem Eu {α:Type}{xs:List α}{i:Int}{v:α} (h:cZ xs i=some v):∃j,seqIndex? i xs.length=some j/\xs[j]? = some v/\j < xs.length /\ -(xs.length:Int)<=i/\i < xs.length:=by
 unfold cZ at h;cases e:oC xs.length i with
 |none=>rw[e]at h;cases h
 |some j =>
  rw[e]at h;obtain⟨h1,h2,h3,h4⟩:=N0 e;exact⟨j,h1,h,h2,h3,h4⟩
theorem gg {α:Type}{xs:List α}{v:α} (h:xs[j]? = some v):cZ xs (j:Int)=some v:=by
 have hj:j < xs.length:=(cu.mp h).1;have e:oC xs.length (j:Int)=some j:=by
  unfold oC;rw[ax (by omega),ax (by omega)];simp
 unfold cZ;rw[e];exact h
theorem YJ {α:Type} (xs:List α) (v:α):cZ (xs ++ [v]) (-1)=some v:=by
 have hl:(xs ++ [v]).length=xs.length+1:=by simp
 have e:oC (xs ++ [v]).length (-1)=some xs.length:=by
  unfold oC;rw[hl,aj (by decide),ax (by omega)]
  congr 1
  omega
 unfold cZ;rw[e];show(xs ++ [v])[xs.length]? = some v;simp
def ZN (b:Expr):Prop:= ∀o i,subscripted b false o i=operate [o,i] (getItem o i)
def uM (X:Cx) (r:R2):Prop:=
 ∀ (value slice:Expr) (pins:List (Addr×Obj)) (s:Shared) (σ:St) (H:Hp) (x y:V) (v u:Value) (Q:VK),Inv X pins σ H s->RelV x v->RelV y u->r x y H Q ->
  subscripted slice false v u=operate [v,u] (getItem v u)->wpAny (model X.prog X.w) X.A (subscriptTail value slice v u) (EP X pins σ Q) X.xe s
def IG (X:Cx) (id:String) (r:V->List V->Hp->VK->Prop):Prop:=
 ∀ (pins:List (Addr×Obj)) (s:Shared) (σ:St) (H:Hp) (x:V) (xs:List V) (v:Value) (us:List Value) (Q:VK),Inv X pins σ H s->RelV x v->Vals xs us->r x xs H Q ->
  wpAny (model X.prog X.w) X.A (call (.builtin id) (v::us)) (EP X pins σ Q) X.xe s
section
variable{a b:Expr}{tb:TE}
theorem a6 {r:R2} (hr:uM X r) (ha:PE X a ta) (hb:PE X b tb) (hs:ZN b):PE X (.Subscript a b pos) (j5 r ta tb):=by
 intro pins s σ H Q I h;exact Subscript_ (FQ ha hb I h fun v u s2 x y H2 I2 rx ry q=>hr a b pins s2 σ H2 x y v u Q I2 rx ry q (hs _ _))
def PQ (K:PySem.W.Frag):R2:=fun x y H Q=>∃p xs i v,x = .ref p/\y = .int i/\ak K H p xs/\cZ xs i=some v/\Q v H
def AN (K:PySem.W.Frag):R2:=fun x y H Q=>∃p xs i v,x = .ref p/\y = .int i/\aE K H p xs/\cZ xs i=some v/\Q v H
def adp:R2:=fun x y H Q=>∃z i c,x = .str z/\y = .int i/\z.length<=sizeLine/\cZ z.cps.toList i=some c/\Q (.str ⟨#[c]⟩) H
theorem fJ:uM X (PQ X.K):=by
 intro value slice pins s σ H x y v u Q I rx ry h hs;obtain⟨p,xs,i,z,rfl,rfl,hq,he,q⟩:=h;cases rx
 obtain⟨t,rfl⟩:=ry;obtain⟨its,r,pl,hz⟩:=I.list hq;obtain⟨j,h1,h2,h3,h4,h5⟩:=Eu he;obtain⟨w,ew,iJ⟩:=r.get h2;have hl:=r.length;have hn:=q0;have fin:EP X pins σ Q w s:=⟨z,H,I,iJ,q⟩
 by_cases h0:0<=i
 ·have hj:i.toNat=j:=by
   rw[KY h0 h5]at h1;exact gA h1
  exact item_listR pl.isList h0 (by omega) (by rw[hj];simpa using ew) fin hs
 ·have hj:(i+(its.toArray.size:Int)).toNat=j:=by
   rw[seqIndex_neg (by omega) h4]at h1
   rw[b8,<-hl];exact gA h1
  exact subscriptTail_builtinR (x:=w) pl.isList.typeIs slot_list_getitem.lookup
   (wpAny_getItem_list_neg (Q:=fun r s'=>r=w/\EP X pins σ Q r s') pl.isList (by omega) (by rw[b8] <;> omega) (by omega) (by rw[hj];simpa using ew) ⟨rfl,fin⟩) hs
theorem cx:uM X (AN X.K):=by
 intro value slice pins s σ H x y v u Q I rx ry h hs;obtain⟨p,xs,i,z,rfl,rfl,hq,he,q⟩:=h;cases rx
 obtain⟨t,rfl⟩:=ry;obtain⟨its,r,pl,hz⟩:=I.tuple hq;obtain⟨j,h1,h2,h3,h4,h5⟩:=Eu he;obtain⟨w,ew,iJ⟩:=r.get h2;have hl:=r.length;have hn:=q0;have fin:EP X pins σ Q w s:=⟨z,H,I,iJ,q⟩;exact subscriptTail_builtinR (x:=w) pl.typeIs slot_tuple_getitem.lookup
  (getItem_tuple (j:=j) (Q:=fun r s'=>r=w/\EP X pins σ Q r s') pl (by omega) (by omega) (by rw[b8,<-hl];exact h1) (by simpa using ew) ⟨rfl,fin⟩) hs
theorem OD:uM X adp:=by
 intro value slice pins s σ H x y v u Q I rx ry h hs;obtain⟨z,i,c,rfl,rfl,hz,he,q⟩:=h;obtain⟨t,rfl⟩:=rx;obtain⟨t',rfl⟩:=ry;obtain⟨j,h1,h2,h3,h4,h5⟩:=Eu he;have hl:z.cps.toList.length=z.length:=by simp[Str.length]
 rw[hl]at h1 h4 h5;have hn:=q0;exact tail_any (typeIs_str s z t) slot_str_getitem.lookup (getItem_str (c:=c) (by
  have e1:decide (i < -(2 ^ 63:Int))=false:=ji (by omega)
  have e2:decide (i ≥ 2 ^ 63)=false:=ji (by omega)
  rw[e1,e2,Bool.or_false]) (by rw[h1];simpa using h2) ⟨.str ⟨#[c]⟩,H,I.tok _,⟨_,rfl⟩,q⟩) hs
theorem Xa (its:List Value) (n j:Nat) (u:Value):Obj.mapSeq (·.setIfInBounds j u) { cls:= .type "list",data:= .seq its.toArray n }={ cls:= .type "list",data:= .seq (its.set j u).toArray n }:=by
 simp[Obj.mapSeq]
theorem Inv.lst {pins:List (Addr×Obj)}{σ:St}{H:Hp}{s:Shared}{p:Addr}{xs:List V} (I:Inv X pins σ H s) (h:H p=some (.lst xs)) :
  ∃ (its:List Value) (n:Nat),Vals xs its/\s.heap.get? p=some { cls:= .type "list",data:= .seq its.toArray n }/\xs.length<=sizeLine:=by
 obtain⟨z,its,n,r,e⟩:=I.au p _ h;exact⟨its,n,r,e,z⟩
theorem Inv.aaY {its':List Value}{n':Nat}{f:Obj->Obj} (I:Inv X pins σ H s) (h:H p=some (.lst xs))
  (ho:s.heap.get? p=some { cls:= .type "list",data:= .seq its.toArray n }) (hf:f { cls:= .type "list",data:= .seq its.toArray n }={ cls:= .type "list",data:= .seq its'.toArray n' }) (r:Vals ys its') (hz:ys.length<=sizeLine) (t:Nat) :
  Inv X pins σ (upd H p (.lst ys)) { s with heap:=s.heap.update p f,toks:=t }:=by
 have e:(s.heap.update p f).get? p=some { cls:= .type "list",data:= .seq its'.toArray n' }:=by
  rw[zg f ho (by rw[hf] <;> rfl),hf]
 refine I.write (x:=p) (e:=p) (by rw[h];trivial) (.inl rfl) (fun b u hb q=>(qI _ _ (aN hb)).trans q) ⟨_,e⟩ ?_
 exact⟨hz,its',n',r,e⟩
def abR:V->V->V->Hp->(Hp->Prop)->Prop:=fun o i v H Q=>∃p xs k j,o = .ref p/\i = .int k/\H p=some (.lst xs)/\oC xs.length k=some j/\Q (upd H p (.lst (xs.set j v)))
theorem set_list:Py X abR:=by
 intro pins s σ H o i v ov iv u Q I ro ri rv h;obtain⟨p,xs,k,j,rfl,rfl,hp,hj,q⟩:=h;cases ro
 obtain⟨t,rfl⟩:=ri;obtain⟨its,n,r,ho,hz⟩:=I.lst hp;obtain⟨h1,h2,h3,h4⟩:=N0 hj;have hl:=r.length;have hn:=q0;have I':Inv X pins σ (upd H p (.lst (xs.set j v))) { s with heap:=s.heap.update p (Obj.mapSeq (·.setIfInBounds j u)) }:=
  I.aaY hp ho (Xa its n j u) (r.set rv j) (by rw[List.length_set];exact hz) s.toks
 by_cases h0:0<=k
 ·have hk:k.toNat=j:=by
   rw[KY h0 h4]at h1;exact gA h1
  exact PySem.W.ki_setAt ho h0 (by omega) (by rw[b8,<-hl];exact h4) (by rw[hk];exact⟨_,I',q⟩)
 ·have hk:(k+(its.toArray.size:Int)).toNat=j:=by
   rw[seqIndex_neg (by omega) h3]at h1
   rw[b8,<-hl];exact gA h1
  exact PySem.W.ki_setBack ho (by omega) (by rw[b8,<-hl];exact h3) (by omega) (by rw[hk];exact⟨_,I',q⟩)
theorem Wq (lo hi:Option Int) (n:Nat):(sliceBounds lo hi none n).1=((HT.bc n 0 lo:Nat):Int)/\(sliceBounds lo hi none n).2.1=((HT.bc n n hi:Nat):Int)/\(sliceBounds lo hi none n).2.2=1:=by
 refine⟨?_,?_,rfl⟩
 ·cases lo with
  |none=>simp[sliceBounds,HT.bc]
  |some i =>
   simp only[sliceBounds,HT.bc,Option.getD_none,show(1:Int) > 0 by decide,kA]
   by_cases h:i < 0
   ·simp only[h,kA] <;> omega
   ·simp only[h,ir] <;> omega
 ·cases hi with
  |none=>simp[sliceBounds,HT.bc]
  |some i =>
   simp only[sliceBounds,HT.bc,Option.getD_none,show(1:Int) > 0 by decide,kA]
   by_cases h:i < 0
   ·simp only[h,kA] <;> omega
   ·simp only[h,ir] <;> omega
theorem Wj (its:List Value) (lo hi:Option Int):slicePick its.toArray lo hi none=((its.drop (HT.bc its.length 0 lo)).take (HT.bc its.length its.length hi - HT.bc its.length 0 lo)).toArray:=by
 obtain⟨h1,h2,h3⟩:=Wq lo hi its.toArray.size;unfold slicePick;rw[h1,h2,h3];simp only[sliceRange_one,pick_run,b8] <;> rfl
def PR (K:PySem.W.Frag):V->Option Int->Option Int->Hp->VK->Prop:=fun x lo hi H Q=>∃a xs,x = .ref a/\ak K H a xs /\ ∀p,H p=none->Q (.ref p) (upd H p (.lst (jW xs lo hi)))
theorem Ew:uL X (PR X.K):=by
 intro pins s σ H x v vl vu lo hi sl Q I rx hs pl pu h;obtain⟨a,xs,rfl,hx,q⟩:=h;cases rx
 obtain⟨its,r,ht,hz⟩:=I.list hx;have hlen:=r.length;refine⟨"list",_,slot_list_getitem.lookup,ht.isList.typeIs,?_⟩;refine wpAny_getItem_list_slice ht.isList hs pl pu .none (by simp) ?_ (by rw[b8] <;> omega)
 rw[Wj,<-hlen];refine⟨.ref s.heap.objs.size,_,I.laid (t':=s.toks) (o:= .lst (jW xs lo hi)) (fun b ob q=>a8 _ q) (aP _) ?_,rfl,q _ (I.au.fresh (aP _))⟩;exact⟨fw (LK xs lo hi) hz,_,0,(r.drop (HT.bc xs.length 0 lo)).take (HT.bc xs.length xs.length hi - HT.bc xs.length 0 lo),cp _ rfl⟩
def mq:V->Bool
 |.aF=>true
 |.bl _=>true
 |.int _=>true
 |.str _=>true
 |_=>false
def pX:V->V->Bool
 |.aF,.aF=>true
 |.bl a,.bl b=>a==b
 |.bl a,.int b=>(if a then 1 else 0)==b
 |.int a,.bl b=>a==(if b then 1 else 0)
 |.int a,.int b=>a==b
 |.str a,.str b=>a==b
 |_,_=>false
theorem aaZ {x:V}{v:Value} (ry:RelV y u) (rx:RelV x v) (fy:mq y=true) (fx:mq x=true):SeqAt.EqAt A s u v (pX y x):=by
 cases y with
 |aF =>
  cases ry
  cases x with
  |aF=>cases rx;exact SeqAt.EqAt.same _
  |bl b=>cases rx;exact SeqAt.EqAt.none_bool b
  |int b=>obtain⟨t,rfl⟩:=rx;exact SeqAt.EqAt.none_int b t
  |str b=>obtain⟨t,rfl⟩:=rx;exact SeqAt.EqAt.none_str b t
  |_=>exact absurd (show false=true from fx) cw
 |bl a =>
  cases ry
  cases x with
  |aF=>cases rx;exact SeqAt.EqAt.bool_none a
  |bl b=>cases rx;exact SeqAt.EqAt.bool_bool a b
  |int b=>obtain⟨t,rfl⟩:=rx;exact SeqAt.EqAt.bool_int a b t
  |str b=>obtain⟨t,rfl⟩:=rx;exact SeqAt.EqAt.bool_str a b t
  |_=>exact absurd (show false=true from fx) cw
 |int a =>
  obtain⟨t',rfl⟩:=ry;cases x with
  |aF=>cases rx;exact SeqAt.EqAt.int_none a t'
  |bl b=>cases rx;exact SeqAt.EqAt.int_bool a t' b
  |int b=>obtain⟨t,rfl⟩:=rx;exact SeqAt.EqAt.int_int a t' b t
  |str b=>obtain⟨t,rfl⟩:=rx;exact SeqAt.EqAt.int_str a t' b t
  |_=>exact absurd (show false=true from fx) cw
 |str a =>
  obtain⟨t',rfl⟩:=ry;cases x with
  |aF=>cases rx;exact SeqAt.EqAt.str_none a t'
  |bl b=>cases rx;exact SeqAt.EqAt.str_bool a t' b
  |int b=>obtain⟨t,rfl⟩:=rx;exact SeqAt.EqAt.str_int a t' b t
  |str b=>obtain⟨t,rfl⟩:=rx;exact SeqAt.EqAt.str_str a t' b t
  |_=>exact absurd (show false=true from fx) cw
 |_=>exact absurd (show false=true from fy) cw
def gU (x:V) (u:Value):Bool:=match u with
 |.none=>pX .aF x
 |.bool b=>pX (.bl b) x
 |.int i _=>pX (.int i) x
 |.str z _=>pX (.str z) x
 |_=>false
theorem Ad {x:V} (r:RelV y u) (f:mq y=true):gU x u=pX y x:=by
 cases y with
 |aF=>cases r;rfl
 |bl b=>cases r;rfl
 |int i=>obtain⟨t,rfl⟩:=r;rfl
 |str z=>obtain⟨t,rfl⟩:=r;rfl
 |_=>exact absurd (show false=true from f) cw
theorem vT {x:V}:∀ {xs:List V}{us:List Value},Vals xs us->xs.all mq=true->us.any (gU x)=xs.any fun y=>pX y x
 |_,_,.nil,_=>rfl
 |y::xs,u::us,.cons r t,f=>by
  rw[List.all_cons,nE]at f;rw[sP,sP,Ad r f.1,vT t f.2]
theorem tN {A:Around}{s:Shared}{x:V}{v:Value} (rx:RelV x v) (fx:mq x=true):∀ {xs:List V}{us:List Value},Vals xs us->xs.all mq=true -> ∀u∈us,SeqAt.EqAt A s u v (gU x u)
 |_,_,.nil,_=>fun u hu=>by cases hu
 |y::xs,u::us,.cons r t,f=>fun u' hu=>by
  rw[List.all_cons,nE]at f;rcases bj.mp hu with rfl|hu
  ·rw[Ad r f.1];exact aaZ r rx f.1 fx
  ·exact tN rx fx t f.2 u' hu
def uN (x:V) (xs:List V):Bool:=xs.any fun y=>pX y x
def BS (K:PySem.W.Frag) (neg:Bool):R2:=fun x y H Q=>∃p xs,y = .ref p/\(ak K H p xs\/aE K H p xs)/\mq x=true/\xs.all mq=true/\Q (.bl (if neg then !uN x xs else uN x xs)) H
theorem tH:cI X (compareOp .In) (BS X.K false):=by
 intro pins s σ H x y v u Q I rx ry h;obtain⟨p,xs,rfl,hq,fx,fs,q⟩:=h;cases ry
 rcases hq with hq|hq
 ·obtain⟨its,r,pl,hz⟩:=I.list hq
  refine SeqAt.in_listAt (gU x) pl.isList (fun w hw=>tN rx fx r fs w (by simpa using hw)) ⟨.bl _,H,I,rfl,?_⟩
  rw[show its.toArray.any (gU x)=its.any (gU x) by simp,vT r fs]
  exact q
 ·obtain⟨its,r,pl,hz⟩:=I.tuple hq
  refine SeqAt.in_tupleAt (gU x) pl (fun w hw=>tN rx fx r fs w (by simpa using hw)) ⟨.bl _,H,I,rfl,?_⟩
  rw[show its.toArray.any (gU x)=its.any (gU x) by simp,vT r fs]
  exact q
theorem Wr:cI X (compareOp .NotIn) (BS X.K true):=by
 intro pins s σ H x y v u Q I rx ry h;obtain⟨p,xs,rfl,hq,fx,fs,q⟩:=h;cases ry
 rcases hq with hq|hq
 ·obtain⟨its,r,pl,hz⟩:=I.list hq
  refine SeqAt.notIn_listAt (gU x) pl.isList (fun w hw=>tN rx fx r fs w (by simpa using hw)) ⟨.bl _,H,I,rfl,?_⟩
  rw[show its.toArray.any (gU x)=its.any (gU x) by simp,vT r fs]
  exact q
 ·obtain⟨its,r,pl,hz⟩:=I.tuple hq
  refine SeqAt.notIn_tupleAt (gU x) pl (fun w hw=>tN rx fx r fs w (by simpa using hw)) ⟨.bl _,H,I,rfl,?_⟩
  rw[show its.toArray.any (gU x)=its.any (gU x) by simp,vT r fs]
  exact q
theorem tq:eu X (.builtin "len") (fun xs H Q=>∃p ys,xs = [.ref p]/\(ak X.K H p ys\/aE X.K H p ys)/\Q (.int ys.length) H):=by
 intro pins s σ H xs us Q I r h;obtain⟨p,ys,rfl,hq,q⟩:=h;obtain⟨u,rfl,rx⟩:=vals1 r;cases rx
 have hn:=q0;rcases hq with hq|hq
 ·obtain⟨its,r',pl,hz⟩:=I.list hq
  have hlen:=r'.length;exact Calls.call_len_list pl.isList (by simp only[b8] <;> omega) ⟨.int ys.length,H,I.tok _,⟨s.toks+1,by rw[b8,hlen]⟩,q⟩
 ·obtain⟨its,r',pl,hz⟩:=I.tuple hq
  have hlen:=r'.length;exact len_tuple pl (by simp only[b8] <;> omega) ⟨.int ys.length,H,I.tok _,⟨s.toks+1,by rw[b8,hlen]⟩,q⟩
theorem Ws:eu X (.builtin "len") (fun xs H Q=>∃z,xs = [.str z]/\z.length<=sizeLine/\Q (.int z.length) H):=by
 intro pins s σ H xs us Q I r h;obtain⟨z,rfl,hz,q⟩:=h;obtain⟨u,rfl,t,rfl⟩:=vals1 r;have hn:=q0;exact len_str (by omega) ⟨.int z.length,H,I.tok _,⟨_,rfl⟩,q⟩
theorem tw:eu X (.type "list") (fun xs H Q=>∃p ys,xs = [.ref p]/\(ak X.K H p ys\/aE X.K H p ys) /\ ∀l,H l=none->Q (.ref l) (upd H l (.lst ys))):=by
 intro pins s σ H xs us Q I r h;obtain⟨p,ys,rfl,hq,q⟩:=h;obtain⟨u,rfl,rx⟩:=vals1 r;cases rx
 have fin:∀ (its:List Value),Vals ys its->ys.length<=sizeLine -> ∀ (h':Heap) (c':Nat),(∀b o',s.heap.get? b=some o'->h'.get? b=some o') ->
   h'.get? s.heap.objs.size=some { cls:= .type "list",dict:=none,data:= .seq its.toArray c',slots:= #[] }->EP X pins σ Q (.ref s.heap.objs.size) { s with heap:=h' }:=fun its r' hz h' c' kp e =>
  ⟨.ref s.heap.objs.size,_,I.laid (t':=s.toks) kp (aP _) (show bu X.prog X.w _ h' _ (.lst ys) from⟨hz,its,c',r',e⟩),rfl,q _ (I.au.fresh (aP _))⟩
 rcases hq with hq|hq
 ·obtain⟨its,r',pl,hz⟩:=I.list hq
  have hlen:=r'.length;obtain⟨o,ho,hc,n,hd⟩:=pl.isList;exact call_list_seq p (.inl rfl) ho hc hd (fun h' c' kp e=>fin its r' hz h' c' kp e) (by simp only[b8] <;> omega)
 ·obtain⟨its,r',pl,hz⟩:=I.tuple hq
  have hlen:=r'.length;obtain⟨o,ho,hc,n,hd⟩:=pl;exact call_list_seq p (.inr rfl) ho hc hd (fun h' c' kp e=>fin its r' hz h' c' kp e) (by simp only[b8] <;> omega)
theorem sX:eu X (.type "tuple") (fun xs H Q=>∃p ys,xs = [.ref p]/\((ak X.K H p ys /\ ∀l,H l=none->Q (.ref l) (upd H l (.tup ys)))\/(aE X.K H p ys/\Q (.ref p) H))):=by
 intro pins s σ H xs us Q I r h;obtain⟨p,ys,rfl,h⟩:=h;obtain⟨u,rfl,rx⟩:=vals1 r;cases rx
 rcases h with⟨hq,q⟩|⟨hq,q⟩
 ·obtain⟨its,r',pl,hz⟩:=I.list hq
  have hlen:=r'.length;refine call_tuple_list pl.isList (fun h' kp=>?_) (by simp only[b8] <;> omega)
  have I1:Inv X pins σ H { s with heap:=h' }:=I.kept (t':=s.toks) kp;have I2:Inv X pins σ (upd H h'.objs.size (.tup ys)) { s with heap:=h'.push { cls:= .type "tuple",data:= .seq its.toArray } }:=
   I1.laid (t':=s.toks) (fun b o e=>a8 _ e) (aP _) (show bu X.prog X.w _ _ _ (.tup ys) from⟨hz,its,r',nV.new _ _⟩)
  exact⟨.ref h'.objs.size,_,I2,rfl,q _ (I1.au.fresh (aP _))⟩
 ·obtain⟨its,r',pl,hz⟩:=I.tuple hq
  exact call_tuple_same pl ⟨.ref p,H,I,rfl,q⟩
def IH (K:PySem.W.Frag) (T:String) (x:V) (H:Hp):Prop:=match x with
 |.str _=>T = "str"
 |.int _=>T = "int"
 |.ref p=>(T = "list" /\ ∃xs,ak K H p xs)\/(T = "tuple" /\ ∃o,K.lookup p=some o/\o.cls = .type "tuple" /\ o.dict=none) \/
   (T = "dict" /\ ((∃kvs,H p=some (.dK kvs)) \/ ∃kvs,H p=some (.dT kvs)))\/(T = "set" /\ ∃S n,H p=some (.set S n))\/(T = "tuple" /\ ∃xs,Rd H p (.tup xs))
 |_=>False
theorem OE {x:V}{v:Value} (I:Inv X pins σ H s) (r:RelV x v) (ty:IH X.K T x H) :
  s.TypeIs v T /\ ∀a,v = .ref a -> ∃ob,s.heap.get? a=some ob/\ob.dict=none:=by
 cases x with
 |str z =>
  obtain⟨t,rfl⟩:=r;cases (show T = "str" from ty)
  exact⟨typeIs_str s z t,fun _ e=>nomatch e⟩
 |int i =>
  obtain⟨t,rfl⟩:=r;cases (show T = "int" from ty)
  exact⟨typeIs_int s i t,fun _ e=>nomatch e⟩
 |ref p =>
  cases r
  rcases ty with⟨rfl,xs,hq⟩|⟨rfl,o,hk,hc,hd⟩|⟨rfl,hk⟩|⟨rfl,S,n,hk⟩|⟨rfl,xs,hq⟩
  ·obtain⟨its,_,pl,_⟩:=I.list hq
   refine⟨pl.isList.typeIs,fun a e=>?_⟩;cases e
   obtain⟨o,n,e,c,hd,_⟩:=pl;exact⟨o,e,hd⟩
  ·refine⟨⟨o,I.bX p o hk,hc⟩,fun a e=>?_⟩
   cases e
   exact⟨o,I.bX _ o hk,hd⟩
  ·have z:∃o,s.heap.get? p=some o/\o.ExactDict:=by
    rcases hk with⟨kvs,hk⟩|⟨kvs,hk⟩
    ·obtain⟨_,_,_,_,o,_,_,e,ex,_⟩:=I.au p _ hk
     exact⟨o,e,ex⟩
    ·obtain⟨_,_,_,_,o,_,_,e,ex,_⟩:=I.au p _ hk
     exact⟨o,e,ex⟩
   obtain⟨o,e,ex⟩:=z;refine⟨⟨o,e,ex.1⟩,fun a e2=>?_⟩;cases e2
   exact⟨o,e,ex.2.1⟩
  ·obtain⟨o,_,_,_,e,ex,_⟩:=I.au p _ hk
   refine⟨⟨o,e,ex.1⟩,fun a e2=>?_⟩;cases e2
   exact⟨o,e,ex.2.1⟩
  ·obtain⟨_,_,_,o,e,c,_,_,hd⟩:=hq.ok I.au
   refine⟨⟨o,e,c⟩,fun a e2=>?_⟩;cases e2
   exact⟨o,e,hd⟩
 |_=>exact False.elim ty
def adq (K:PySem.W.Frag) (T:String) (r:V->List V->Hp->VK->Prop) (to:TE):TE:=fun σ H Q=>to σ H fun x H1=>IH K T x H1/\r x [] H1 Q
def tBM (K:PySem.W.Frag) (T:String) (r:V->List V->Hp->VK->Prop) (to:TE) (t:TA):TE:=fun σ H Q=>to σ H fun x H1=>IH K T x H1/\t σ H1 fun xs H2=>r x xs H2 Q
variable{o:Expr}{to:TE}{t:TA}{kF:Pos}{id:String}{r:V->List V->Hp->VK->Prop}
theorem aa0 (pa:PlainAttrs T) (slot:Slot T name id) (II:typeOf (.builtin id)=pure (.type "method_descriptor")) (hm:IG X id r) (ho:PE X o to)
  (wy:attributeBase o name X.env (eval o X.env)=eval o X.env:=by rfl) (wz:(apos.endLine==kF.line)=true:=by rfl):PE X (.Call (.Attribute o name apos) [] [] kF) (adq X.K T r to):=by
 intro pins s σ H Q I h;refine wpAny_Call_method0_late wy wz (aw (ho pins s σ H _ I h) fun v s1 ⟨x,H1,I1,r1,ty,q1⟩=>?_);obtain⟨h1,h2⟩:=OE I1 r1 ty;exact⟨T,id,pa,slot,II,h1,h2,Calls.callWith_builtin rfl (anB (hm pins s1 σ H1 x [] v [] Q I1 r1 .nil q1))⟩
theorem jq (pa:PlainAttrs T) (slot:Slot T name id) (II:typeOf (.builtin id)=pure (.type "method_descriptor")) (hm:IG X id r) (ho:PE X o to) (ha:PA X (e::es) t)
  (wy:attributeBase o name X.env (eval o X.env)=eval o X.env:=by rfl)
  (ads:((backTo kF (starEach (e::es) X.env)).all (fun x=>!x.1) && (backToKw kF (keywordEach [] X.env)).all (fun x=>x.1.isSome)
   && decide ((e::es).length+([]:List Keyword).length+(if ([]:List Keyword).isEmpty then 0 else 1) < 30))=true:=by rfl)
  (wz:(apos.endLine==kF.line)=true:=by rfl) (hs:starEach (e::es) X.env=(false,eval e X.env)::starEach es X.env:=by rfl) (aa1:(backTo kF (starEach es X.env)).any (·.1)=false:=by rfl) :
  PE X (.Call (.Attribute o name apos) (e::es) [] kF) (tBM X.K T r to t):=by
 intro pins s σ H Q I h;refine wpAny_Call_method_late wy ads wz rfl (aw (ho pins s σ H _ I h) fun v s1 ⟨x,H1,I1,r1,ty,q1⟩=>?_);obtain⟨h1,h2⟩:=OE I1 r1 ty;refine⟨T,id,pa,slot,II,h1,h2,?_⟩;have hA:=ha kF pins s1 σ H1 _ I1 q1;rw[hs]at hA ⊢;refine Calls.callWith_builtin (by show(false || (backTo kF (starEach es X.env)).any (·.1))=false;rw[aa1] <;> rfl) (Calls.evalArgs_plain ?_)
 exact aw hA fun us s2 ⟨vs,H2,I2,r2,q2⟩=>hm pins s2 σ H2 x vs v us Q I2 r1 r2 q2
end
def uO (X:Cx) (id:String) (r:V->List V->Hp->VK->Prop):Prop:=
 ∀ (pins:List (Addr×Obj)) (s:Shared) (σ:St) (H:Hp) (x:V) (xs:List V) (v:Value) (us:List Value) (Q:VK),Inv X pins σ H s->RelV x v->Vals xs us->r x xs H Q ->
  wpAny (model X.prog X.w) X.A (call (.builtin id) (v::us)) (EP X pins σ Q) X.xe s
theorem Vals.one:∀ {x:V}{us:List Value},Vals [x] us -> ∃u,us = [u]/\RelV x u
 |_,_,.cons r .nil=>⟨_,rfl,r⟩
theorem Vals.two:∀ {x y:V}{us:List Value},Vals [x,y] us -> ∃u v,us = [u,v]/\RelV x u/\RelV y v
 |_,_,_,.cons r (.cons q .nil)=>⟨_,_,rfl,r,q⟩
theorem Vals.zero:∀ {us:List Value},Vals [] us->us = []
 |_,.nil=>rfl
theorem Vals.dropLast (h:Vals xs us):Vals xs.dropLast us.dropLast:=by
 induction h with
 |nil=>exact .nil
 |cons r t ih =>
  cases t with
  |nil=>exact .nil
  |cons q t'=>exact .cons r ih
theorem Vals.eraseIdx:∀ {xs:List V}{us:List Value} (i:Nat),Vals xs us->Vals (xs.eraseIdx i) (us.eraseIdx i)
 |_,_,_,.nil=>.nil
 |_,_,0,.cons _ t=>t
 |_,_,i+1,.cons r t=>.cons r (Vals.eraseIdx i t)
theorem Xb {α:Type} (l:List α):l.eraseIdx (l.length - 1)=l.dropLast:=by
 induction l with
 |nil=>rfl
 |cons a r ih =>
  cases r with
  |nil=>rfl
  |cons b r =>
   have e:(a::b::r).length - 1=((b::r).length - 1)+1:=by
    have h1:(a::b::r).length=r.length+2:=rfl;have h2:(b::r).length=r.length+1:=rfl;omega
   rw[e,List.eraseIdx_cons_succ,ih]
   all_goals rfl
theorem Mm {α:Type}:∀ (l:List α) (i:Nat),(l.eraseIdx i).length<=l.length
 |[],_=>aP _
 |_::_,0=>jN _
 |_::r,i+1=>Nat.succ_le_succ (Mm r i)
section
variable{zs:List V}
theorem Inv.AO {its':List Value}{f:Array Value->Array Value} (I:Inv X pins σ H s) (hH:H l=some (.lst xs))
  (e:s.heap.get? l=some { cls:= .type "list",data:= .seq its.toArray n }) (hf:f its.toArray=its'.toArray) (hv:Vals ys its') (hz:ys.length<=sizeLine) :
  Inv X pins σ (upd H l (.lst ys)) { s with heap:=s.heap.update l (Obj.mapSeq f),toks:=t' }:=by
 have q:=PySem.IsL.update e f;rw[hf]at q;refine I.write (x:=l) (e:=l) (by rw[hH];exact trivial) (.inl rfl) (fun b' u hb hu=>(qI s.heap (Obj.mapSeq f) (aN hb)).trans hu) ⟨_,q⟩ ?_
 exact⟨hz,its',_,hv,q⟩
theorem Inv.PU (I:Inv X pins σ H s) (hv:Vals ys its) (hz:ys.length<=sizeLine) :
  Inv X pins σ (upd H s.heap.objs.size (.lst ys)) { s with heap:=s.heap.push { cls:= .type "list",data:= .seq its.toArray },toks:=t' }:=
 I.laid (fun _ _ q=>a8 _ q) (aP _) ⟨hz,its,0,hv,cp _ rfl⟩
theorem Inv.fresh (I:Inv X pins σ H s):H s.heap.objs.size=none:=I.au.fresh (aP _)
theorem Inv.rG (I:Inv X pins σ H s) (hH:H l=some (.lst xs)):xs.length<=sizeLine /\ ∃ (its:List Value) (n:Nat),Vals xs its/\xs.length=its.length/\s.heap.get? l=some { cls:= .type "list",data:= .seq its.toArray n }:=by
 obtain⟨z,its,n,r,e⟩:=I.au l _ hH;exact⟨z,its,n,r,r.length,e⟩
theorem YK (h:n<=sizeLine):Builtin.List.listTooLong n=false:=by
 unfold Builtin.List.listTooLong;exact ji (by omega)
end
def ZO:V->List V->Hp->VK->Prop:=fun x vs H Q=>∃l xs y,x = .ref l/\vs = [y]/\H l=some (.lst xs)/\xs.length < sizeLine/\Q .aF (upd H l (.lst (xs ++ [y])))
theorem o8:uO X "list.append" ZO:=by
 intro pins s σ H x vs v us Q I rx rv h;obtain⟨l,xs,y,rfl,rfl,hH,hz,q⟩:=h;cases rx
 obtain⟨u,rfl,ru⟩:=rv.one;obtain⟨z,its,n,r,hl,e⟩:=I.rG hH;refine sQ F.slot_list_append ⟨_,e,rfl⟩ F.entry_list_append (F.args_list_append_2 _ _) (PySem.list_append l its.toArray n u (by rw[b8];omega)) ⟨e,?_⟩
 refine⟨.aF,_,I.AO (its':=its ++ [u]) hH e (by simp) (r.append (.cons ru .nil)) ?_,rfl,q⟩
 rw[dz,sR];omega
def adt:V->List V->Hp->VK->Prop:=fun x vs H Q=>∃l xs y,x = .ref l/\vs = []/\H l=some (.lst xs)/\xs[xs.length - 1]? = some y/\Q y (upd H l (.lst xs.dropLast))
theorem aa2:uO X "list.pop" adt:=by
 intro pins s σ H x vs v us Q I rx rv h;obtain⟨l,xs,y,rfl,rfl,hH,hy,q⟩:=h;cases rx
 have RN:=rv.zero;subst RN;obtain⟨z,its,n,r,hl,e⟩:=I.rG hH;obtain⟨u,hu,ru⟩:=r.get hy;have hy':its.toArray[its.toArray.size - 1]? = some u:=by
  show its.toArray[its.length - 1]? = some u;rw[<-zh,<-hl];exact hu
 refine sQ F.slot_list_pop ⟨_,e,rfl⟩ F.entry_list_pop (F.args_list_pop_1 _) (MeetsSeq.list_pop_last l its.toArray n u hy' (by rw[b8];omega)) ⟨e,?_⟩
 refine⟨y,_,I.AO (its':=its.dropLast) hH e ?_ r.dropLast ?_,ru,q⟩
 ·show its.toArray.eraseIdxIfInBounds (its.toArray.size - 1)=its.dropLast.toArray
  rw[b8,anC,Xb]
 ·rw[Vo]
  omega
def aa3:V->List V->Hp->VK->Prop:=fun x vs H Q=>∃l xs i k y,x = .ref l/\vs = [.int i]/\H l=some (.lst xs) /\ -(2 ^ 63)<=i/\i < 2 ^ 63/\seqIndex? i xs.length=some k/\xs[k]? = some y/\Q y (upd H l (.lst (xs.eraseIdx k)))
theorem M7:uO X "list.pop" aa3:=by
 intro pins s σ H x vs v us Q I rx rv h;obtain⟨l,xs,i,k,y,rfl,rfl,hH,h1,h2,hk,hy,q⟩:=h;cases rx
 obtain⟨u,rfl,ru⟩:=rv.one;obtain⟨t,rfl⟩:=ru;obtain⟨z,its,n,r,hl,e⟩:=I.rG hH;obtain⟨w,hw,iJ⟩:=r.get hy;refine sQ F.slot_list_pop ⟨_,e,rfl⟩ F.entry_list_pop (F.args_list_pop_2 _ _)
  (MeetsSeq.list_pop_at l its.toArray n i t k w (fitsIndex_both h1 h2) (by rw[b8,<-hl];exact hk) (by rw[<-zh];exact hw) (by rw[b8];omega)) ⟨e,?_⟩
 refine⟨y,_,I.AO (its':=its.eraseIdx k) hH e ?_ (r.eraseIdx k) ?_,iJ,q⟩
 ·show its.toArray.eraseIdxIfInBounds k=(its.eraseIdx k).toArray
  rw[anC]
 ·have:=Mm xs k
  omega
def adu:R2:=fun x y H Q=>∃l b xs zs,x = .ref l/\y = .ref b/\H l=some (.lst xs)/\H b=some (.lst zs)/\xs.length+zs.length<=sizeLine /\ ∀p,H p=none->Q (.ref p) (upd H p (.lst (xs++zs)))
theorem v9:cI X (binaryOp .Add) adu:=by
 intro pins s σ H x y v u Q I rx ry h;obtain⟨l,b,xs,zs,rfl,rfl,hH,hB,hz,q⟩:=h;cases rx
 cases ry
 obtain⟨z,its,n,r,hl,e⟩:=I.rG hH;obtain⟨z2,nY,n2,r2,kJ,e2⟩:=I.rG hB;refine PySem.P.add_list e e2 ?_ (by rw[b8,b8];omega)
 have ea:its.toArray++nY.toArray=(its++nY).toArray:=by simp
 rw[ea];exact⟨.ref _,_,I.PU (t':=s.toks) (r.append r2) (by rw[dz];omega),rfl,q _ I.fresh⟩
section
set_option maxRecDepth 100000 in
end
end L2
namespace RO
open PySem PySem.W PySem.Calls PyProof.Rows
theorem Wa {P:Params}:∀ (ns:List Int) (vs:List Value),WellAll P h vs (ns.map WData.int)->IntsAre vs ns:=by
 intro ns
 induction ns with
 |nil =>
  intro vs w;rw[List.map_nil]at w;cases w
  exact .nil
 |cons n ns ih =>
  intro vs w;rw[fX]at w;cases w with
  |cons a b =>
   cases a
   exact .cons _ _ (ih _ b)
theorem XR {l:OpenLaw} (hn:l.most=some n) {P:Params}{args:List WData}{vals:List Value}
  (AQ:l.row.toRowW.claim.pre args=true) (xH:WellAll P h vals args) :
  ∃a vs ns,vals = [Value.ref a]/\args = [WData.list (ns.map WData.int)]/\h.get? a=some { cls:= .type "list",data:= .seq vs.toArray }/\IntsAre vs ns/\ns.length<=n:=by
 have hsh:WShape.hasAll [] args [.list .int]=true:=(pre_splitW AQ).1;have hc:l.pre.holds [] { args:=args }=true:=(pre_splitW AQ).2;obtain⟨d,r,rfl,h1,h2⟩:=hasAllW_cons hsh;obtain rfl:=hasAllW_nil h2;obtain⟨xs,rfl,h3⟩:=hasW_list h1;obtain⟨ns,rfl⟩:=items_int h3;have hlen:ns.length<=n:=by
  unfold OpenLaw.pre at hc;have h4:(WTm.not (.lt (.lit (.int (n:Int))) (.len (.arg 0)))).holds [] { args:= [.list (ns.map .int)] }=true:=by
   have h4:=(holds_andW hc).1;rw[hn]at h4;exact h4
  have h5:=condW_of h4 (w_not (w_lt w_lit (w_len_list (w_arg rfl))));rw[aJ]at h5;refine Nat.le_of_not_lt fun q=>?_;have q':(n:Int) < ((ns.length:Nat):Int):=by omega
  first
   |(rw[fY q']at h5;exact absurd h5 (by decide))
   |(simp at h5;omega)
 cases xH with
 |cons w1 w2 =>
  cases w2
  cases w1 with
  |list ho FU=>exact⟨_,_,ns,rfl,rfl,ho,Wa ns _ FU,hlen⟩
theorem XS (l:OpenLaw) (args:List WData):l.row.toRowW.claim.post args (.bool true) args=true:=
 postW_of (r:=l.row.toRowW) (X:=(true==true))
  (show WShape.has [] (.bool true) .bool=true by first|rfl|decide|simp[WShape.has,WShape.arms,WShape.armsAll])
  (show(WTm.eq .res (.lit (.bool true))).value [] { args:=args,res:=some (.bool true),after:=args }=some (.bool (true==true)) from w_eq_bool (w_res rfl) w_lit) rfl
theorem WJ {l:OpenLaw}{q:Program}{d:DefRec}
  (hn:l.most=some n) (xI:d.params.defaults = [])
  (call:∀ (w:World) (eG bh:Shared) (mg mb:Str->Option Value) (fa:Addr) (o:Obj) (pm cd doc:Value) (a:Addr) (vs:List Value) (ns:List Int),
   Ground q loose [] XP w eG mg mb bh.heap->YP w bh.heap ->
   bh.heap.get? fa=some o->o.data = .func (docDef d.name d.params d.body d.scope pm cd doc)->bh.heap.CodeRec cd d.name->mg d.name=some (.ref fa) ->
   bh.heap.get? a=some { cls:= .type "list",data:= .seq vs.toArray }->IntsAre vs ns->ns.length<=n->bh.gens = #[] ->
   codeAny (model l.prog w) callerA (.call (.ref fa) ⟨[.ref a],[]⟩) (fun r s'=>r = .ok (.ret (.bool true))/\OldK bh.heap s'.heap/\s'.os=bh.os/\AllBare s'.gens) bh) :
  WalkO q loose XP YP l.row.toRowW d [] (fun f vs=>PySem.call f vs):=by
 intro w eG bh mg mb G Y fa o pm cd doc dV kV ho hd fg hD sf hg args vals as AQ wW xJ xH hlo;obtain rfl:dV = .none:=Dflts.none hD xI;obtain rfl:kV = .none:=Dflts.noKw hD;obtain⟨a,vs,ns,rfl,rfl,FV,hints,hlen⟩:=XR hn AQ xH;refine enter_call (sN (call w eG bh mg mb fa o pm cd doc a vs ns G Y ho (fd_plain hd) fg sf FV hints hlen hg) fun r s' hq=>?_);obtain⟨rfl,h2,h3,h4⟩:=hq;exact⟨.inl ⟨.bool true,.bool true,[],rfl,fun _=>rfl,.bool true,XS l _,fun _=>⟨List.Pairwise.nil,fun _ hm=>(nomatch hm)⟩⟩,h2,h3,h4⟩
end RO
namespace L2
open PySem PySem.Spec PyProof.Rows
theorem Mn:∀ {vs:List Value}{ns:List Int},IntsAre vs ns->Vals (ns.map V.int) vs
 |_,_,.nil=>.nil
 |_,_,.cons n t h=>.cons ⟨t,rfl⟩ (Mn h)
def FX (H:Hp):Prop:= ∀b,H b=none \/ ∃o xs,H b=some (.cq o (.lst xs))
theorem YL {mb:Str->Option Value}{CX:j6}{k:Nat}{fa:Addr}{bh:Shared}{vs:List Value}
  (KX:K.In bh.heap) (fQ:bh.heap.Ns mainGlobals mg) (hb:bh.heap.Ns builtinsNs mb) (hbb:∀x:Str,x ≠ "__name__" -> mb x=bootBuiltins x) (adv:bh.heap.NoLimit) (hg:bh.gens = #[])
  (ha:bh.heap.get? a=some { cls:= .type "list",data:= .seq vs.toArray }) (hi:IntsAre vs ns) (hl:ns.length<=sizeLine) (hr:bb k callerA)
  (F:∀base:Heap,K.In base->base.Ns mainGlobals mg->aS P w K mg base CX k fa fd [x] sp) (abS:∀ (s:Shared) (u:Value),BindsTo s fd ⟨[u],[]⟩ [(x,u)])
  (gR:∀H:Hp,FX H->ak K H a (ns.map V.int)->sp [.ref a] H (fun v _=>v = .bl true) fun _ _ _=>False)
  (IJ:∀H e s',CX [] H bh (fun _ _ _=>False) e s'->False) :
  codeAny (model P w) callerA (.call (.ref fa) ⟨[.ref a],[]⟩) (fun r s'=>r = .ok (.ret (.bool true))/\OldK bh.heap s'.heap/\s'.os=bh.os/\AllBare s'.gens) bh:=by
 have rv:=Mn hi;have adw:=hi.length;have core:∀H:Hp,FX H->ak K H a (ns.map V.int)->cR P w H bh.heap->(∀b,H b≠none->b=a)->(H a≠none->K.lookup a=none) ->
   codeAny (model P w) callerA (.call (.ref fa) ⟨[.ref a],[]⟩) (fun r s'=>r = .ok (.ret (.bool true))/\OldK bh.heap s'.heap/\s'.os=bh.os/\AllBare s'.gens) bh:=by
  intro H hO hS au hA hK;have N1:∀ {b:Addr}{o:Obj},bh.heap.get? b=some o->H b=none->(nW bh.heap H).get? b=some o:=fun e n=>Yw e n;have xG:∀ {b:Addr}{o:Obj}{es:Array DictEntry}{ep:Nat},bh.heap.get? b=some o->o.data = .dict es ep->H b=none:=fun {b o es ep} e d=>by
   cases q:H b with
   |none=>rfl
   |some u =>
    have e':b=a:=hA b (by rw[q];simp)
    subst e';rw[ha]at e;cases e;have d':Data.seq vs.toArray _=Data.dict es ep:=d;cases d'
  have BU:∀ {b:Addr}{m:Str->Option Value},bh.heap.Ns b m->(nW bh.heap H).Ns b m:=fun {b m} ⟨o,es,ep,e,d,r⟩=>⟨o,es,ep,N1 e (xG e d),d,r⟩;have RP:K.In (nW bh.heap H):=fun b o e=>N1 (KX b o e) (by
   cases q:H b with
   |none=>rfl
   |some u =>
    have e':b=a:=hA b (by rw[q];simp)
    subst e';rw[hK (by rw[q];simp)]at e;cases e)
  have hM:Mod K mg (nW bh.heap H):=⟨RP,BU fQ,⟨mb,BU hb,hbb⟩,let ⟨mc,h1,h2⟩:=adv;⟨mc,BU h1,h2⟩⟩;have e0:rF P w K mg (nW bh.heap H) callerA [] bh H:=⟨rfl,hM,fun b o e=>ZC e,Nat.le_of_eq (XG _ _),trivial,fun b hb=>absurd (show b∈([]:List Addr) from hb) (by simp),au,.of_eq hg⟩
  refine sN ((F _ RP (BU fQ)).run callerA [] bh H ⟨[.ref a],[]⟩ [.ref a] [.ref a] _ _ hr e0 (abS bh (.ref a)) (.cons rfl .nil) (gR H hO hS)) fun r s' h=>?_;cases r with
  |error e=>exact(IJ H e s' h).elim
  |ok fl =>
   cases fl with
   |next=>exact False.elim h
   |brk=>exact False.elim h
   |cont=>exact False.elim h
   |ret u =>
    obtain⟨v,H',os,bare,un,adx,r',q⟩:=h;have q':v = .bl true:=q;subst q';obtain rfl:u=Value.bool true:=r';refine⟨rfl,OldK.of_keep fun b o e=>?_,os,bare⟩;cases q:H b with
    |none=>exact un.keep b o e q (by intro z;exact absurd (show b∈([]:List Addr) from z) (by simp)) (by simp)
    |some u =>
     rcases hO b with z|⟨ob,xs,z⟩
     ·rw[q]at z;cases z
     ·have z2:=un.ju b ob _ z
      obtain⟨e1,_⟩:=au b _ z;obtain⟨e2,_⟩:=adx b _ z2;rw[e]at e1;cases e1;exact e2
 cases hk:K.lookup a with
 |some o =>
  have e:=KX a o hk;rw[ha]at e;cases e
  refine core (fun _=>none) (fun _=>.inl rfl) (.inr ⟨_,vs.toArray,_,hk,rfl,rfl,rfl,by rw[b8,adw];exact hl,by simpa using rv⟩) (fun b u z=>by have z':(none:Option HO)=some u:=z;cases z') (fun b z=>absurd rfl z) fun z=>absurd rfl z
 |none =>
  refine core (fun b=>if b=a then some (.cq { cls:= .type "list",data:= .seq vs.toArray } (.lst (ns.map V.int))) else none) (fun b=>?_) (.inl (.inr ⟨{ cls:= .type "list",data:= .seq vs.toArray },ax rfl⟩)) (fun b u z=>?_) (fun b z=>?_) fun _=>hk
  ·by_cases hb:b=a
   ·exact .inr ⟨_,_,ax hb⟩
   ·exact .inl (aj hb)
  ·by_cases hb:b=a
   ·have z':=(ax hb).symm.trans z
    cases z'
    subst hb;exact⟨ha,by rw[aJ];exact hl,vs,_,rv,ha⟩
   ·have z':=(aj hb).symm.trans z
    cases z'
  ·by_cases hb:b=a
   ·exact hb
   ·exact absurd (aj hb) z
theorem ZP {l:PySem.W.OpenLaw}{k:Nat}{q:Program}{d:DefRec}{K:Params->PySem.W.Frag}{CX:World->j6}{sp:World->Sp}
  (hn:l.most=some n) (BP:n<=sizeLine) (xI:d.params.defaults = []) (hr:bb k callerA)
  (hY:∀ (w:World) (h:Heap),YP w h->(K w.params).In h)
  (F:∀ (w:World) (mg:Str->Option Value) (fa:Addr) (h:Heap),(K w.params).In h->h.Ns mainGlobals mg->mg d.name=some (.ref fa) ->
   ∃fd:FuncData,(∀ (s:Shared) (u:Value),BindsTo s fd ⟨[u],[]⟩ [(x,u)]) /\
    ∀base:Heap,(K w.params).In base->base.Ns mainGlobals mg->aS l.prog w (K w.params) mg base (CX w) k fa fd [x] (sp w))
  (gR:∀ (w:World) (H:Hp) (a:Addr) (ns:List Int),ns.length<=n->FX H->ak (K w.params) H a (ns.map V.int)->sp w [.ref a] H (fun v _=>v = .bl true) fun _ _ _=>False)
  (IJ:∀ (w:World) (H:Hp) (s:Shared) (e:Value) (s':Shared),CX w [] H s (fun _ _ _=>False) e s'->False) :
  PySem.W.WalkO q loose XP YP l.row.toRowW d [] (fun f vs=>PySem.call f vs):=by
 refine RO.WJ hn xI fun w eG bh mg mb fa o pm cd doc a vs ns G Y ho hd fg sf FV hints hlen hg=>?_;have KX:=hY w _ Y;obtain⟨fd,hb,hF⟩:=F w mg fa _ KX G.T.g sf;exact YL KX G.T.g G.T.b G.T.builtins G.T.nolimit hg FV hints (fw hlen BP) hr hF hb (fun H hO hS=>gR w H a ns hlen hO hS) fun H e s'=>IJ w H bh e s'
def inClass (s:Stmt) (j:Nat):Stmt:=match s with
 |.ClassDef _ _ _ body _ _ _ _ _ _ _=>body.getD j (.Pass ⟨0,0,0,0⟩)
 |_=>.Pass ⟨0,0,0,0⟩
def c9 (s:Stmt):Arguments:=match s with
 |.FunctionDef _ a _ _ _ _ _ _ _ _=>a
 |_=>{ posonlyargs:= [],args:= [],vararg:=none,kwonlyargs:= [],kw_defaults:= [],kwarg:=none,defaults:= [] }
def bH (s:Stmt):List Stmt:=match s with
 |.FunctionDef _ _ b _ _ _ _ _ _ _=>b
 |_=>[]
def aI (s:Stmt):Scope:=match s with
 |.FunctionDef _ _ _ _ _ _ sc _ _ _=>sc
 |_=>{ kind:= .function,names:= [],isGenerator:=false,isCoroutine:=false }
abbrev aO:j6:=fun _ _ _ _ _ _=>False
abbrev E0:XK:=fun _ _ _=>False
theorem eF:Passes aO X E0:=fun _ _ _ _ _ _ _ h=>h.elim
structure aY (K:PySem.W.Frag) (x qual:Str) (st:Stmt) (f:Addr) (fd:FuncData):Prop where
 ex:∃ (oc:Value) (od:Option Addr) (kV doc pm:Value) (an:Option Addr) (aH ct:Value) (iZ:Array (Option Value)),
  fd=PySem.W.fnOf x qual (c9 st) (bH st) (aI st) .none kV doc pm an aH ct/\K.lookup f=some ⟨oc,od,.func fd,iZ⟩/\PySem.W.codeIn K aH qual=true
 kp:PySem.W.keepIn K (.ref f)=true
theorem aY.ok {k:Nat} (F:aY K x qual st f fd) (S:bF N ps (aI st)) (len:∀vs H Q E,sp vs H Q E->vs.length=ps.length)
  (rA:∀ (aH:Value) (A:Around) (outer:List Env) (s:Shared) (H:Hp) (vs:List V) (Q:VK) (E:XK),bb k (A.deeper (envOfC qual (aI st) s.heap.objs.size f aH))->sp vs H Q E ->
   ∃t,ff (gm aO P w K mg base N qual (aI st) f aH A outer s H E).uG (bH st) t/\t { nx:=fun _ H'=>Q .aF H',rt:=Q } (start N vs) H):aS P w K mg base aO (k+1) f fd ps sp:=by
 obtain⟨oc,od,kV,doc,pm,an,aH,ct,iZ,rfl,lk,fg⟩:=F.ex;refine Ff lk fg S len fun A outer s H vs Q E hr gR=>?_;obtain⟨t,h,q⟩:=rA aH A outer s H vs Q E hr gR;exact⟨t,h.uG,q⟩
theorem aY.binds (F:aY K x qual st f fd)
  (h:∀ (kV doc pm:Value) (an:Option Addr) (aH ct:Value) (us:List Value),us.length=ps.length->bindArgs (PySem.W.fnOf x qual (c9 st) (bH st) (aI st) .none kV doc pm an aH ct) ⟨us,[]⟩=pure (ps.zip us)):Binds K fd ps []:=by
 obtain⟨oc,od,kV,doc,pm,an,aH,ct,iZ,rfl,lk,fg⟩:=F.ex;exact .all (h kV doc pm an aH ct)
theorem iV {kV:Value} (l:K.lookup f=some ⟨oc,od,.func (PySem.W.fnOf x qual (c9 st) (bH st) (aI st) .none kV doc pm an aH ct),iZ⟩)
  (c:PySem.W.codeIn K aH qual=true) (k:PySem.W.keepIn K (.ref f)=true):aY K x qual st f (PySem.W.fnOf x qual (c9 st) (bH st) (aI st) .none kV doc pm an aH ct):=⟨⟨oc,od,kV,doc,pm,an,aH,ct,iZ,rfl,l,c⟩,k⟩
theorem pv (i:Nat) (hN:X.N[i]? = some x:=by rfl) (hv:Iu X.env.scope x:=by first|exact Or.inl rfl|exact Or.inr (Or.inl rfl)|exact Or.inr (Or.inr rfl)) (hd:(x==("__debug__" : Str))=false:=by decide)
  (fg:(x==("__classdict__" : Str))=false:=by decide):PE X (.Name x pos) (hX i):=aaP hN hv hd fg
theorem c7 {c A B:Prop} [Decidable c] (h1:c->A) (h2 : ¬ c->B):if c then A else B:=by
 by_cases h:c
 ·rw[ax h]
  exact h1 h
 ·rw[aj h]
  exact h2 h
def aB (H H':Hp):Prop:= ∀b o,H b=some o->H' b=some o
theorem aB.refl (H:Hp):aB H H:=fun _ _ h=>h
theorem aB.trans (a:aB H H1) (b:aB H1 H2):aB H H2:=fun c o h=>b c o (a c o h)
theorem aB.free (e:aB H H') (h:H' l=Option.none):H l=Option.none:=by
 cases q:H l with
 |none=>rfl
 |some o =>
  rw[e l o q]at h;cases h
end L2
namespace L2
open PySem
theorem Paired.PV {α β:Type}{F G:α->β->Prop}{l:List α}{m:List β} (h:Paired F l m):(∀a b,b∈m->F a b->G a b)->Paired G l m:=by
 induction h with
 |nil=>exact fun _=>.nil
 |cons p _ ih=>exact fun k=>.cons (k _ _ aW p) (ih fun a b e=>k a b (bq _ e))
end L2
namespace L2
open PySem PySem.Spec PyProof.Rows
def gO (cells:List (Str×Addr)):List (Str×NameKind)->List (Str×Addr)->List (Str×Addr)
 |[],acc=>acc
 |(n,k)::r,acc=>if k == .free then gO cells r ((n,(cells.lookup n).getD 0)::acc) else gO cells r acc
theorem Dx (h:∀n,(n,NameKind.free)∈scope.names -> ∃c,env.cells.lookup n=some c) :
  closureFor scope env=pure (gO env.cells scope.names []):=by
 have key:∀ (names:List (Str×NameKind)) (acc:List (Str×Addr)),(∀n,(n,NameKind.free)∈names -> ∃c,env.cells.lookup n=some c) ->
   (forIn (m:=Sem) names acc fun x r=>match x with|(name,kind)=>if (kind==NameKind.free)=true then (do let a <- cellOf env name;pure (ForInStep.yield ((name,a)::r))) else pure (ForInStep.yield r))=pure (gO env.cells names acc):=by
  intro names
  induction names with
  |nil=>intro acc _;rfl
  |cons x r ih =>
   intro acc hx;obtain⟨n,k⟩:=x;rw[List.forIn_cons];unfold gO
   by_cases hk:k = .free
   ·subst hk
    obtain⟨c,hc⟩:=hx n aW;simp only[Vp,kA];have e:cellOf env n=pure c:=by unfold cellOf;rw[hc]
    rw[e,hc];exact ih _ fun m hm=>hx m (bq _ hm)
   ·have hb:(k==NameKind.free)=false:=by simpa using hk
    simp only[hb,oZ,ir];exact ih _ fun m hm=>hx m (bq _ hm)
 unfold closureFor;have:=key scope.names [] h;show((forIn (m:=Sem) scope.names [] fun x r=>match x with|(name,kind)=>if (kind==NameKind.free)=true then (do let a <- cellOf env name;pure (ForInStep.yield ((name,a)::r))) else pure (ForInStep.yield r)) >>= fun cs=>pure cs)=_;rw[this]
 rfl
theorem sY:∀ (names:List (Str×NameKind)) (n:Nat) (acc:List (Str×Addr)),cellsFrom n names acc=cellsFrom n names []++acc
 |[],_,_=>rfl
 |(name,kind)::r,n,acc=>by
  unfold cellsFrom;split
  ·rw[sY r (n+1) ((name,n)::acc),sY r (n+1) [(name,n)],KZ];rfl
  ·exact sY r n acc
theorem zq {cells:List (Str×Addr)}:∀ (names:List (Str×NameKind)) (acc:List (Str×Addr)) (x:Str) (c:Addr),(gO cells names acc).lookup x=some c ->
  (acc.lookup x=some c)\/((x,NameKind.free)∈names/\c=(cells.lookup x).getD 0)
 |[],acc,x,c,h=>.inl h
 |(n,k)::r,acc,x,c,h=>by
  unfold gO at h;split at h
  ·rename_i hk
   have pY:k = .free:=by simpa using hk
   subst pY;rcases zq r _ x c h with z|⟨z,e⟩
   ·rw[gE]at z
    cases hb:x==n with
    |true=>rw[hb]at z;cases z;rw[eV.mp hb];exact .inr ⟨aW,rfl⟩
    |false=>rw[hb]at z;exact .inl z
   ·exact .inr ⟨bq _ z,e⟩
  ·rcases zq r _ x c h with z|⟨z,e⟩
   ·exact .inl z
   ·exact .inr ⟨bq _ z,e⟩
theorem DS {cells:List (Str×Addr)}:∀ (names:List (Str×NameKind)) (acc:List (Str×Addr)) (x:Str),(∃c,acc.lookup x=some c) -> ∃c,(gO cells names acc).lookup x=some c
 |[],acc,x,h=>h
 |(n,k)::r,acc,x,h=>by
  unfold gO;split
  ·refine DS r _ x ?_
   obtain⟨c,h⟩:=h;rw[gE];cases hb:x==n with
   |true=>exact⟨_,rfl⟩
   |false=>exact⟨c,h⟩
  ·exact DS r _ x h
theorem zA {cells:List (Str×Addr)}:∀ (names:List (Str×NameKind)) (acc:List (Str×Addr)) (x:Str),(x,NameKind.free)∈names -> ∃c,(gO cells names acc).lookup x=some c
 |[],acc,x,h=>by simp at h
 |(n,k)::r,acc,x,h=>by
  unfold gO;rcases bj.mp h with e|h
  ·cases e
   simp only[Vp,kA];exact DS r _ _ ⟨(cells.lookup n).getD 0,by rw[gE];simp⟩
  ·split
   ·exact zA r _ x h
   ·exact zA r _ x h
theorem zp:∀ (names:List (Str×NameKind)) (n:Nat) (acc:List (Str×Addr)) (x:Str) (c:Addr),(x,c)∈cellsFrom n names acc->(x,c)∈acc\/(x,NameKind.cell)∈names
 |[],_,_,_,_,h=>.inl h
 |(name,kind)::r,n,acc,x,c,h=>by
  unfold cellsFrom at h;split at h
  ·rename_i hk
   have pY:kind = .cell:=by simpa using hk
   subst pY;rcases zp r _ _ x c h with z|z
   ·rcases bj.mp z with e|z
    ·cases e;exact .inr aW
    ·exact .inl z
   ·exact .inr (bq _ z)
  ·rcases zp r _ _ x c h with z|z
   ·exact .inl z
   ·exact .inr (bq _ z)
structure cK (N:List Str) (uP:Scope) (N':List Str) (b5:List (Option Nat)) (sc:Scope):Prop where
 kind:sc.kind = .function
 keys:(sc.names.map (·.1)).Nodup
 nd:N'.Nodup
 len:b5.length=N'.length
 fv:∀ (j i:Nat),b5[j]? = some (some i) -> ∃x,N[i]? = some x/\N'[j]? = some x/\sc.names.lookup x=some .free
 free:∀p∈sc.names,p.2 = .free->uP.names.lookup p.1=some .cell\/uP.names.lookup p.1=some .free
theorem sZ {α:Type}:∀ {l:List (Str×α)},(l.map (·.1)).Nodup -> ∀ {x:Str}{k:α},(x,k)∈l->l.lookup x=some k
 |(n,v)::r,hn,x,k,h=>by
  obtain⟨h1,h2⟩:=g8.mp hn;rw[gE];rcases bj.mp h with e|hm
  ·cases e;simp
  ·have:(x==n)=false:=by
    rw[ng];intro e;exact h1 (br.mpr ⟨_,hm,e⟩)
   rw[this];exact sZ h2 hm
def D6 (scope:Scope) (L:Addr) (env:Env):Env:=
 { scope:=relabel scope env,locals:=L,globals:=env.globals,cells:=cellsFrom (L+1) scope.names (gO env.cells scope.names []),qual:=env.qual,func:=none,code:=env.code,frame:=env.frame,builtins:=env.builtins }
theorem LL {M:Model}{globals:Addr}{cl:List (Str×Addr)}{Q:Env->Shared->Prop}
  (hQ:∀h',h'.Ns s.heap.objs.size (fun _=>none)->(∀b o,s.heap.get? b=some o->h'.get? b=some o)->(∀x c,(x,c)∈cellsFrom (s.heap.objs.size+1) scope.names []->h'.IsCell c none/\s.heap.objs.size < c) ->
   ((cellsFrom (s.heap.objs.size+1) scope.names []).Pairwise fun x y=>x.2≠y.2) ->
   Q { scope:=scope,locals:=s.heap.objs.size,globals:=globals,cells:=cellsFrom (s.heap.objs.size+1) scope.names cl,qual:=qual,func:=none,code:=env.code,frame:=env.frame,builtins:=env.builtins } { s with heap:=h' }) :
  wpAny M A (newFunctionEnv scope globals cl [] qual none .none (some env)) Q E s:=by
 simp only[newFunctionEnv,Option.isSome_some,kA];refine aa (wpAny_alloc ?_);refine aa (wpAny_layCells _ (fun name kind cells=>by cases hkc:kind==NameKind.cell <;> simp[hkc]) _ _ _ _ ?_)
 have ok:=cellsFrom_ok scope.names (s.heap.push { cls:= .type "dict",data:= .dict #[] }) (s.heap.objs.size+1) [] ⟨fun _ _ hm=>(nomatch hm),List.Pairwise.nil⟩ (by rw[l0];exact aP _)
 rw[l0]at ok;rw[show({ s with heap:=s.heap.push { cls:= .type "dict",data:= .dict #[] } }:Shared).heap.objs.size=s.heap.objs.size+1 from l0 ..];rw[List.forIn_nil];refine aa (ai (ai ?_));exact hQ _ ((Heap.Ns.new s.heap (.type "dict")).keeps (pushCells_keeps _ _)) (fun b o e=>pushCells_keeps _ _ b o (a8 _ e)) (fun x c hm=>⟨(ok.empty x c hm).1,(ok.empty x c hm).2⟩) ok.apart
def cM (X:Cx) (N':List Str) (scope:Scope) (s2:Shared) (H2:Hp) (fp:List Addr):Cx:=
 { X with N:=N',eG:=s2,my:=H2,env:=D6 scope s2.heap.objs.size X.env,outer:=X.stack,stack:=X.stack,ex:=fp,fn:=fun x=>scope.names.lookup x==some .cell,pn:= [],xe:=fun _ _=>False }
theorem Dw {env:Env}:∀ {names:List (Str×NameKind)}{x:Str}{k:NameKind},
  (names.map fun(n,k)=>if (k==NameKind.free && env.scope.kind == .function && env.kindOf n==some .cell) then (n,NameKind.cell) else (n,k)).lookup x=some k ->
  ∃k0,names.lookup x=some k0/\(k=k0\/(k0 = .free/\k = .cell))
 |[],_,_,h=>by simp at h
 |(n,k0)::r,x,k,h=>by
  have ih:=@Dw env r x k;have h':List.lookup x ((if (k0==NameKind.free && env.scope.kind == .function && env.kindOf n==some .cell)=true then (n,NameKind.cell) else (n,k0))::_)=some k:=h;rw[gE]
  by_cases hc:(k0==NameKind.free && env.scope.kind == .function && env.kindOf n==some .cell)=true
  ·rw[ax hc,gE]at h'
   cases hx:x==n with
   |true =>
    rw[hx]at h';cases h';have:k0 = .free:=by
     have z:=hc;rw[nE,nE]at z
     simpa using z.1.1
    exact⟨k0,rfl,.inr ⟨this,rfl⟩⟩
   |false=>rw[hx]at h';exact ih h'
  ·rw[aj hc,gE]at h'
   cases hx:x==n with
   |true=>rw[hx]at h';cases h';exact⟨k0,rfl,.inl rfl⟩
   |false=>rw[hx]at h';exact ih h'
theorem Du {env:Env}:∀ {names:List (Str×NameKind)}{x:Str},names.lookup x=some .free ->
  (names.map fun(n,k)=>if (k==NameKind.free && env.scope.kind == .function && env.kindOf n==some .cell) then (n,NameKind.cell) else (n,k)).lookup x=some .cell \/
  (names.map fun(n,k)=>if (k==NameKind.free && env.scope.kind == .function && env.kindOf n==some .cell) then (n,NameKind.cell) else (n,k)).lookup x=some .free
 |[],_,h=>by simp at h
 |(n,k0)::r,x,h=>by
  have ih:=@Du env r x;show List.lookup x ((if (k0==NameKind.free && env.scope.kind == .function && env.kindOf n==some .cell)=true then (n,NameKind.cell) else (n,k0))::_)=_\/List.lookup x ((if (k0==NameKind.free && env.scope.kind == .function && env.kindOf n==some .cell)=true then (n,NameKind.cell) else (n,k0))::_)=_;rw[gE]at h;cases hx:x==n with
  |true =>
   rw[hx]at h;cases h
   by_cases hc:(NameKind.free==NameKind.free && env.scope.kind == .function && env.kindOf n==some .cell)=true
   ·rw[ax hc,gE,hx];exact .inl rfl
   ·rw[aj hc,gE,hx];exact .inr rfl
  |false =>
   rw[hx]at h
   by_cases hc:(k0==NameKind.free && env.scope.kind == .function && env.kindOf n==some .cell)=true
   ·rw[ax hc,gE,hx];exact ih h
   ·rw[aj hc,gE,hx];exact ih h
def pick (b5:List (Option Nat)) (σ:St):St:=b5.map fun o=>o.bind fun i=>(σ[i]?).join
theorem zB (I:Inv X pins σ H s2) (S:cK X.N X.env.scope N' b5 scope) (hx:(x,NameKind.free)∈scope.names):∃c,X.env.cells.lookup x=some c:=
 I.ok.has x (S.free _ hx rfl)
theorem Xc (I:Inv X pins σ H s2) (S:cK X.N X.env.scope N' b5 scope) {c:Addr} (h:(cellsFrom n scope.names (gO X.env.cells scope.names [])).lookup x=some c) :
  ((x,c)∈cellsFrom n scope.names []/\(x,NameKind.cell)∈scope.names)\/((x,NameKind.free)∈scope.names/\X.env.cells.lookup x=some c):=by
 rw[sY,Vq]at h;cases e:(cellsFrom n scope.names []).lookup x with
 |some d =>
  rw[e]at h;have z:d=c:=by simpa using h
  subst z;have m:=oW e;rcases zp _ _ _ _ _ m with z|z
  ·simp at z
  ·exact .inl ⟨m,z⟩
 |none =>
  rw[e]at h;have h':(gO X.env.cells scope.names []).lookup x=some c:=by simpa using h
  rcases zq _ _ _ _ h' with z|⟨z,e2⟩
  ·simp at z
  ·obtain⟨c0,h0⟩:=zB I S z
   rw[h0]at e2;exact .inr ⟨z,by rw[h0,e2];rfl⟩
theorem M8 (I:Inv X pins σ H s2) (S:cK X.N X.env.scope N' b5 scope) (xK:∀b∈fp,iC X pins H b) (hfo:∀b∈fp,∃o,s2.heap.get? b=some o)
  (hn:h'.Ns s2.heap.objs.size (fun _=>none)) (hk:∀b o,s2.heap.get? b=some o->h'.get? b=some o)
  (hc:∀x c,(x,c)∈cellsFrom (s2.heap.objs.size+1) scope.names []->h'.IsCell c none/\s2.heap.objs.size < c) (hp:(cellsFrom (s2.heap.objs.size+1) scope.names []).Pairwise fun x y=>x.2≠y.2) :
  Inv (cM X N' scope s2 H fp) [] (pick b5 σ) H { s2 with heap:=h' }:=by
 have old:∀ {x:Str}{c:Addr},X.env.cells.lookup x=some c->c < s2.heap.objs.size:=fun {x c} e=>let ⟨_,q⟩:=I.cell x c e;q.lt;have cc:∀ {x:Str}{c:Addr},(cM X N' scope s2 H fp).env.cells.lookup x=some c->((x,c)∈cellsFrom (s2.heap.objs.size+1) scope.names []/\(x,NameKind.cell)∈scope.names)\/((x,NameKind.free)∈scope.names/\X.env.cells.lookup x=some c):=
  fun {x c} e=>Xc I S e
 have isc:∀ {x:Str}{c:Addr},(cM X N' scope s2 H fp).env.cells.lookup x=some c -> ∃v,h'.IsCell c v:=fun {x c} e=>by
  rcases cc e with⟨m,_⟩|⟨_,e0⟩
  ·exact⟨_,(hc x c m).1⟩
  ·obtain⟨v,q⟩:=I.cell x c e0
   exact⟨v,q.keeps hk⟩
 have i5:∀b∈fp,b < s2.heap.objs.size:=fun b hb=>let ⟨_,e⟩:=hfo b hb;a9 e;refine⟨⟨I.ok.mod,S.kind,I.ok.glob,I.ok.blt,aP _,fun x y c e1 e2=>?_,fun x hx=>?_,fun x c hx e=>?_,I.ok.hd,I.ok.frames,.inl rfl,fun b hb=>⟨bx (i5 b hb),fun x c e z=>?_⟩,I.bs,?_,fun b o e hb=>?_,fun b hb IK=>?_,I.stack,I.Er⟩,
  rfl,I.bare,Un.kept hk,⟨_,hn,fun j x v e1 e2 e3=>?_⟩,fun x c e=>isc e,I.au.fresh (aP _),fun x c e=>?_,fun p hp=>absurd (show p∈([]:List (Addr×Obj)) from hp) (by simp),I.au.kept hk,?_⟩
 ·rcases cc e1 with⟨m1,_⟩|⟨_,o1⟩ <;> rcases cc e2 with⟨m2,_⟩|⟨_,o2⟩
  ·exact name_of_addr hp m1 m2
  ·exact absurd (vo (hc _ _ m1).2 (old o2)) (qF _)
  ·exact absurd (vo (hc _ _ m2).2 (old o1)) (qF _)
  ·exact I.ok.inj x y c o1 o2
 ·have hk0:∃k0,scope.names.lookup x=some k0/\(k0 = .cell\/k0 = .free):=by
   rcases hx with hx|hx
   ·obtain⟨k0,e,z⟩:=Dw (env:=X.env) hx
    refine⟨k0,e,?_⟩;rcases z with z|z
    ·exact .inl z.symm
    ·exact .inr z.1
   ·obtain⟨k0,e,z⟩:=Dw (env:=X.env) hx
    refine⟨k0,e,?_⟩;rcases z with z|z
    ·exact .inr z.symm
    ·exact .inr z.1
  obtain⟨k0,e,z⟩:=hk0;show ∃c,(cellsFrom (s2.heap.objs.size+1) scope.names (gO X.env.cells scope.names [])).lookup x=some c;rw[sY,Vq];rcases z with rfl|rfl
  ·obtain⟨c,oq⟩:=D5 (n:=s2.heap.objs.size+1) e
   exact⟨c,by rw[oq];rfl⟩
  ·cases q:(cellsFrom (s2.heap.objs.size+1) scope.names []).lookup x with
   |some d=>exact⟨d,rfl⟩
   |none =>
    obtain⟨c,oq⟩:=zA (cells:=X.env.cells) scope.names [] x (oW e);exact⟨c,by rw[oq];rfl⟩
 ·have di:scope.names.lookup x=some .cell:=by simpa [cM] using hx
  rcases cc e with⟨m,_⟩|⟨m,_⟩
  ·exact C7 (hc _ _ m).2
  ·rw[sZ S.keys m]at di;cases di
 ·rcases cc e with⟨m,_⟩|⟨_,o1⟩
  ·have:=i5 b hb
   rw[<-z]at this;exact absurd (vo (hc _ _ m).2 this) (qF _)
  ·exact(xK b hb).2.2.2.2.1 x c o1 z
 ·exact fw I.ok.lH I.sz
 ·rcases (xK b hb).2.2.2.1 with z|z
  ·exact I.ok.pK b o e z
  ·exact absurd (g7 (a9 (I.ok.bs b o e).1) z) (qF _)
 ·have:=I.Ab b IK
  rcases bj.mp this with z|z
  ·exact(xK b hb).2.1 z
  ·exact(xK b hb).2.2.1 z
 ·
  have xM:(b5[j]?).bind (fun o=>some (o.bind fun i=>(σ[i]?).join))=some (some v):=by
   have xN:(b5.map fun o=>o.bind fun i=>(σ[i]?).join)[j]? = some (some v):=e2;rw[jk]at xN;cases q:b5[j]? with
   |none=>rw[q]at xN;cases xN
   |some o=>rw[q]at xN;exact xN
  cases q:b5[j]? with
  |none=>rw[q]at xM;cases xM
  |some o =>
   rw[q]at xM;cases o with
   |none=>simp at xM
   |some i =>
    have uQ:(σ[i]?).join=some v:=by simpa using xM
    have e4:σ[i]? = some (some v):=by
     cases q2:σ[i]? with
     |none=>rw[q2]at uQ;cases uQ
     |some z=>rw[q2]at uQ;rw[show z=some v from uQ]
    obtain⟨y,IL,hy2,xO⟩:=S.fv j i q;have exy:x=y:=by
     have BV:N'[j]? = some x:=e1;rw[hy2]at BV;exact(gA BV).symm
    subst exy;obtain⟨m,hm,hl⟩:=I.loc;have hf:=S.free _ (oW xO) rfl;obtain⟨u,r,lk⟩:=hl i x v IL e4 (by rcases hf with z|z;exact .inr (.inl z);exact .inr (.inr z))
    refine⟨u,r,.inr ⟨Du xO,?_⟩⟩;rcases lk with⟨k,_⟩|⟨_,c,ec,ic⟩
    ·have k':X.env.scope.names.lookup x=some .local:=k
     rcases hf with z|z <;> (rw[z]at k';cases k')
    ·refine⟨c,?_,ic.keeps hk⟩
     show(cellsFrom (s2.heap.objs.size+1) scope.names (gO X.env.cells scope.names [])).lookup x=some c;rw[sY,Vq];cases q3:(cellsFrom (s2.heap.objs.size+1) scope.names []).lookup x with
     |some d =>
      rcases zp _ _ _ _ _ (oW q3) with z|z
      ·simp at z
      ·rw[sZ S.keys z]at xO;cases xO
     |none =>
      obtain⟨c',oq⟩:=zA (cells:=X.env.cells) scope.names [] x (oW xO);rcases zq _ _ _ _ oq with z|⟨_,e5⟩
      ·simp at z
      ·rw[ec]at e5
       rw[oq,e5];rfl
 ·rcases cc e with⟨m,_⟩|⟨_,o1⟩
  ·exact I.au.fresh (C7 (hc _ _ m).2)
  ·exact I.gN x c o1
 ·show(b5.map _).length=N'.length
  rw[aJ,S.len]
def pM (X:Cx) (ifs:List Expr) (t:TT):Prop:=
 ∀ (pins:List (Addr×Obj)) (s:Shared) (σ:St) (H:Hp) (Q:Bool->Hp->Prop),Inv X pins σ H s->t σ H Q ->
  wpAny (model X.prog X.w) X.A (forIn ifs true fun c r=>if r=true then do let ok <- isTrue c X.env (eval c X.env);pure (ForInStep.yield ok) else pure (ForInStep.yield r)) (TP X pins σ Q) X.xe s
def As:TT:=fun _ H Q=>Q true H
theorem hJ:pM X [] As:=fun _ _ _ H _ I h=>wpAny_tests_nil ⟨H,I,h⟩
theorem pj {t:TT} (h:PT X c t):pM X [c] t:=fun pins s σ H Q I hw=>wpAny_tests_one (h pins s σ H Q I hw)
theorem V9 {R:Result->Shared->Prop}{target:Expr}{it:Value} (I:Nat->Shared->Prop)
  (turn:∀n s,I n s->wpAny (model prog w) A (pyNext it) (fun r s1=>match r with
   |none=>R (.ok .next) s1
   |some v=>wpAny (model prog w) A (letOwnedTupleGo target it v) (fun _ s2=>wpAny (model prog w) A (assign target env v) (fun _ s3 =>
     wpAny (model prog w) A (forIn ifs true fun c r=>if r=true then do let ok <- isTrue c env (eval c env);pure (ForInStep.yield ok) else pure (ForInStep.yield r)) (fun ok s4 =>
      if ok=true then wpAny (model prog w) A (eval elt env) (fun x s5 =>
       wpAny (model prog w) A (call (.builtin "list.append") [acc,x]) (fun _ s6=>∃m,m < n/\I m s6) (fun _ _=>False) s5) (fun _ _=>False) s4
      else ∃m,m < n/\I m s4) (fun _ _=>False) s3) (fun _ _=>False) s2) (fun _ _=>False) s1) (fun _ _=>False) s)
  (n:Nat) (h:I n s) :
  codeAny (model prog w) A (.compLoop (.ListComp elt [⟨target,iter,ifs,0⟩] scope pos) 0 it acc env) R s:=by
 refine codeAny_loop rfl I (fun n s hI=>?_) n h;show wpAny _ A ((compTurn (.ListComp elt [⟨target,iter,ifs,0⟩] scope pos) 0 it acc env).onRaise (fun x=>do noteFrame x env;theTreesLotGoes x)) _ _ s;refine wpAny_noted (K0 ?_);rw[compTurn_list];refine aa (nC (aa (aw (turn n s hI) fun r s1 h1=>?_)));cases r with
 |none=>exact ai h1
 |some v =>
  refine aa (aw h1 fun _ s2 h2=>aa (aw h2 fun _ s3 h3=>aa (aw h3 fun ok s4 h4=>?_)));cases ok with
  |false=>exact ai ⟨rfl,h4⟩
  |true=>exact aa (aa (aw h4 fun x s5 h5=>aa (aw h5 fun _ s6 h6=>ai (ai ⟨rfl,h6⟩))))
def mr (J:It) (g:TG) (ti:TT) (te:TE) (iI:St) (Q:VK) (p:Addr) (H1:Hp):Prop:=
 ∃W:Nat->Nat->List V->St->Hp->Prop,(∃m,W 0 m [] iI (upd H1 p (.lst []))) /\ ∀i m ys τ H2,W i m ys τ H2->H2 p=some (.lst ys) /\
  ((J.stop i H2/\Q (.ref p) H2)\/(J.go i H2 /\ ∀x H3,J.pW i H2 x H3->g x τ H3 fun cz H4=>ti cz H4 fun b H5 =>
   if b=true then te cz H5 fun y H6=>H6 p=some (.lst ys)/\ys.length < sizeLine /\ ∃m',m' < m/\W (i+1) m' (ys ++ [y]) cz (upd H6 p (.lst (ys ++ [y])))
   else ∃m',m' < m/\W (i+1) m' ys cz H5))
def OW (wi:TI) (b5:List (Option Nat)) (g:TG) (ti:TT) (te:TE):TE:=fun σ H Q=>wi σ H fun J H1=>∀p,H1 p=none->mr J g ti te (pick b5 σ) Q p H1
def CompEnd (X:Cx) (pins:List (Addr×Obj)) (σ:St) (Q:VK) (acc:Value) (C:Addr) (s':Shared):Prop:=
 ∃ (p:Addr) (H':Hp),acc = .ref p/\Inv X pins σ H' s'/\iC X pins H' C/\(∃m,s'.heap.Ns C m)/\Q (.ref p) H'
theorem Mo {J:It}{tn:Nat->Heap->Prop}{g:TG}{Q:VK}{RR:Value->Addr->Result->Shared->Prop} (hc:X.calm=true) (S:cK X.N X.env.scope N' b5 scope)
  (I2:Inv X pins σ H2 s2) (T:Turn X.prog X.w X.K tg J fp it tn) (st:tn 0 s2.heap) (hf:∀b∈fp,iC X pins H2 b)
  (hb:∀s H fp,PG (cM X N' scope s H fp) tg g/\pM (cM X N' scope s H fp) ifs ti/\PE (cM X N' scope s H fp) elt te)
  (hw:∀p,H2 p=none->mr J g ti te (pick b5 σ) Q p H2) (hR:∀acc C s',CompEnd X pins σ Q acc C s'->RR acc C (.ok .next) s') :
  wpAny (model X.prog X.w) X.A (newList []) (fun acc s3=>wpAny (model X.prog X.w) X.A (newFunctionEnv scope X.env.globals (gO X.env.cells scope.names []) [] X.env.qual none .none (some X.env)) (fun wX s4 =>
   codeAny (model X.prog X.w) X.A (.compStart (.ListComp elt [⟨tg,iter,ifs,0⟩] scope pos) 0 (.ref it) acc { wX with scope:=relabel scope X.env }) (RR acc wX.locals) s4) E s3) E s2:=by
 refine iP ?_;have I3:Inv X pins σ (upd H2 s2.heap.objs.size (.lst [])) { s2 with heap:=s2.heap.push { cls:= .type "list",data:= .seq ([]:List Value).toArray } }:=
  I2.PU (its:= []) (t':=s2.toks) .nil (bf _)
 have hp:=hw s2.heap.objs.size I2.fresh;generalize e3:({ s2 with heap:=s2.heap.push { cls:= .type "list",data:= .seq ([]:List Value).toArray } }:Shared)=s3 at I3 ⊢;generalize eH:upd H2 s2.heap.objs.size (.lst [])=H3 at I3 hp;have i5:∀b∈fp,b < s2.heap.objs.size:=fun b hb=>let ⟨_,e,_⟩:=T.obj _ _ st b hb;a9 e;have get3:∀b o,s2.heap.get? b=some o->s3.heap.get? b=some o:=fun b o e=>by rw[<-e3];exact a8 _ e
 have lK:tn 0 s3.heap:=T.keep _ _ _ st fun b _ o e=>get3 b o e;have ie:∀b∈fp,iC X pins H3 b:=fun b hb=>⟨by rw[<-eH,ag (bx (i5 b hb))];exact(hf b hb).1,(hf b hb).2⟩
 have pZ:∀b∈fp,∃o,s3.heap.get? b=some o:=fun b hb=>let ⟨o,e,_⟩:=T.obj _ _ lK b hb;⟨o,e⟩;refine LL fun h4 hn hk jz IM=>?_;have I4:Inv (cM X N' scope s3 H3 fp) [] (pick b5 σ) H3 { s3 with heap:=h4 }:=M8 I3 S ie pZ hn hk jz IM;have xP:tn 0 ({ s3 with heap:=h4 }:Shared).heap:=T.keep _ _ _ lK fun b _ o e=>hk b o e;obtain⟨hG,hI,hE⟩:=hb s3 H3 fp;obtain⟨W,⟨m0,w0⟩,turn⟩:=hp;rw[eH]at w0;have lC:∀ {H':Hp},(∀b∈fp,H' b=none) -> ∀b∈fp,iC (cM X N' scope s3 H3 fp) [] H' b:=fun hn b hb =>
  ⟨hn b hb,(I4.ok.om b hb).1,I4.ok.nX b hb,.inl hb,fun x c e=>(I4.ok.om b hb).2 x c e,fun p hp=>absurd (show p∈([]:List (Addr×Obj)) from hp) (by simp)⟩
 have loop:codeAny (model X.prog X.w) X.A (.compLoop (.ListComp elt [⟨tg,iter,ifs,0⟩] scope pos) 0 (.ref it) (.ref s2.heap.objs.size) (D6 scope s3.heap.objs.size X.env))
   (RR (.ref s2.heap.objs.size) s3.heap.objs.size) { s3 with heap:=h4 }:=by
  refine V9 (fun n s'=>∃i ys τ H',Inv (cM X N' scope s3 H3 fp) [] τ H' s'/\tn i s'.heap/\(∀b∈fp,H' b=none)/\W i n ys τ H') ?_ m0 ⟨0,[],_,H3,I4,xP,fun b hb=>(ie b hb).1,w0⟩;rintro n s5 ⟨i,ys,τ,H5,I5,oz,lL,w5⟩;obtain⟨hp5,w5⟩:=turn i n ys τ H5 w5;rcases w5 with⟨stop,qn⟩|⟨go,step⟩
  ·refine aw (T.done (cM X N' scope s3 H3 fp) rfl rfl rfl hc i [] s5 τ H5 _ I5 (lC lL) oz stop) fun r s6 ⟨hr,I6⟩=>?_
   subst hr;refine hR _ _ _ ⟨_,H5,rfl,?_,?_,?_,qn⟩
   ·exact I3.Am (s':=s6) (ch:=fp) I6.os I6.base I6.au I6.bare fun b hb=>⟨(ie b hb).2.2.2.1,(ie b hb).2.1,(ie b hb).2.2.2.2.1,(ie b hb).2.2.2.2.2⟩
   ·exact I3.mE (aP _) I6.free
   ·obtain⟨m,hm,_⟩:=I6.loc
    exact⟨m,hm⟩
  ·refine aw (T.item (cM X N' scope s3 H3 fp) rfl rfl rfl hc i [] s5 τ H5 _ I5 (lC lL) oz go) fun r s6 ⟨u,hr,h6⟩=>?_
   subst hr;refine aw h6 fun _ s7 ⟨x,H7,I7,r7,y7,sg,IP⟩=>?_;have IQ:=I7.pinned (lC IP) (T.obj _ _ sg);refine aw (hG _ s7 τ H7 x u _ IQ r7 (step x H7 y7)) fun _ s8 ⟨uR,H8,I8,q8⟩=>?_;refine aw (hI _ s8 uR H8 _ I8 q8) fun b s9 ⟨H9,I9,q9⟩=>?_;have again:∀ {gH:St}{H':Hp}{s':Shared}{iK:List V}{m':Nat},Inv (cM X N' scope s3 H3 fp) ([]++t5 fp s7.heap) gH H' s'->m' < n->W (i+1) m' iK gH H' ->
     ∃m,m < n /\ ∃i ys τ H',Inv (cM X N' scope s3 H3 fp) [] τ H' s'/\tn i s'.heap/\(∀b∈fp,H' b=none)/\W i m ys τ H':=fun {gH H' s' iK m'} I' hm w'=>by
    refine⟨m',hm,i+1,iK,gH,H',I'.vL,T.keep _ _ _ sg fun b hb o e=>(I'.pin (b,o) (fH _ (fH _ (tE hb e)))).1,fun b hb=>?_,w'⟩;obtain⟨o,e,d⟩:=T.obj _ _ sg b hb;exact(I'.pin (b,o) (fH _ (fH _ (tE hb e)))).2.1
   cases b with
   |false =>
    obtain⟨m',hm,w'⟩:=q9;exact again I9 hm w'
   |true =>
    refine aw (hE _ s9 uR H9 _ I9 q9) fun y RQ ⟨z,kM,IS,r10,ady,adz,m',hm,w'⟩=>?_;refine aw (o8 _ RQ uR kM (.ref s2.heap.objs.size) [z] (.ref s2.heap.objs.size) [y] (fun _ H'=>H'=upd kM s2.heap.objs.size (.lst (ys ++ [z]))) IS rfl (.cons r10 .nil) ⟨_,_,_,rfl,rfl,ady,adz,rfl⟩) fun _ s11 ⟨_,RS,I11,_,e11⟩=>?_;subst e11;exact again I11 hm w'
 exact codeAny_compStart_list loop (T.self X.A 0 _ _ _ xP loop)
theorem gM {wi:TI}{g:TG} (hc:X.calm=true) (S:cK X.N X.env.scope N' b5 scope) (hi:PI X tg iter wi)
  (hb:∀s H fp,PG (cM X N' scope s H fp) tg g/\pM (cM X N' scope s H fp) ifs ti/\PE (cM X N' scope s H fp) elt te)
  (hs:∀x,foldedSetIterable iter X.env x=pure x:=by intro _;rfl):PE X (.ListComp elt [⟨tg,iter,ifs,0⟩] scope pos) (OW wi b5 g ti te):=by
 intro pins s σ H Q I h;rw[eval_ListComp];refine Vr (use:=none) rfl hs (Dx fun n hn=>zB I S hn) S.kind (fun x hx hl=>sZ S.keys (by rw[<-hl];exact hx)) ?_
 refine aw (hi pins s σ H _ I h) fun v s1 h1=>aw h1 fun xD s2 h2=>?_;obtain⟨it,fp,tn,J,H2,e,I2,T,mO,f2,hw⟩:=h2;subst e;refine Mo (RR:=fun acc C=>compPost (model X.prog X.w) X.A X.xe none (EP X pins σ Q) acc C) hc S I2 T mO f2 hb hw ?_;rintro acc C s' ⟨p,H',rfl,I',fC,⟨m,hm⟩,q⟩;refine⟨m,hm,fun h' kO=>⟨.ref p,H',?_,rfl,q⟩⟩;exact I'.turned (it:=C) (t':=s'.toks) (fun b o hb e=>(kO.2 b hb).trans e) fC.1 fC.2.1 fC.2.2.2.1 fC.2.2.2.2.1 fC.2.2.2.2.2
theorem tF {wi:TI}{g:TG}{PX:Pos} (hc:X.calm=true) (S:cK X.N X.env.scope N' b5 scope) (hN:X.N.Nodup) (hx:X.N[i]? = some x) (hl:X.env.scope.names.lookup x=some .local) (hi:PI X tg iter wi)
  (hb:∀s H fp,PG (cM X N' scope s H fp) tg g/\pM (cM X N' scope s H fp) ifs ti/\PE (cM X N' scope s H fp) elt te)
  (hsw:swapsWith (.ListComp elt [⟨tg,iter,ifs,0⟩] scope pos) (some (.Name x pos')) PX.line X.env=pure true:=by rfl)
  (hs:∀x,foldedSetIterable iter X.env x=pure x:=by intro _;rfl):PS X (.Assign [.Name x pos'] (.ListComp elt [⟨tg,iter,ifs,0⟩] scope pos) PX) (FO (OW wi b5 g ti te) (rq i)):=by
 intro pins s σ H D I h;rw[exec_Assign_Name_used _ _ _ _ hsw];refine aa (nC (aa ?_));show wpAny _ X.A (do let _ <- comprehension (.ListComp elt [⟨tg,iter,ifs,0⟩] scope pos) scope X.env _ (newList []) false (eval iter X.env) (some (assign (.Name x pos') X.env))) _ _ s;refine aa (aw (Vr (use:=some (assign (.Name x pos') X.env)) (Q:=fun _ s'=>SP X pins D .next s') rfl hs (Dx fun n hn=>zB I S hn) S.kind (fun x hx hl=>sZ S.keys (by rw[<-hl];exact hx)) ?_) fun _ s' hq=>ai (ai hq))
 refine aw (hi pins s σ H _ I h) fun v s1 h1=>aw h1 fun xD s2 h2=>?_;obtain⟨it,fp,tn,J,H2,e,I2,T,mO,f2,hw⟩:=h2;subst e;refine Mo (Q:=fun v H'=>D.nx (σ.set i (some v)) H') (RR:=fun acc C=>compPost (model X.prog X.w) X.A X.xe (some (assign (.Name x pos') X.env)) (fun _ s'=>SP X pins D .next s') acc C) hc S I2 T mO f2 hb hw ?_;rintro acc C s' ⟨p,H',rfl,I',fC,⟨m,hm⟩,q⟩;show wpAny (model X.prog X.w) X.A (assign (.Name x pos') X.env (.ref p)) _ _ s';refine wpAny_assign_Name (Mf (v:= .ref p) I' hN hx (.inl hl) rfl (fun r8 I'' ⟨a,hsb,ha⟩=>?_) (.inr hl));have hCa:C≠a:=by
  rcases ha with ha|ha
  ·rw[ha];exact fC.2.1
  ·exact fun z=>fC.2.2.2.2.1 _ _ ha z.symm
 refine⟨m,hm.sameBut hsb hCa,fun h' kO=>⟨_,H',?_,q⟩⟩;exact I''.turned (it:=C) (t':=r8.toks) (fun b o hb e=>(kO.2 b hb).trans e) fC.1 fC.2.1 fC.2.2.2.1 fC.2.2.2.2.1 fC.2.2.2.2.2
end L2
namespace L2
open PySem PySem.Spec PyProof.Rows PySem.W PySem.Builtin.ObjectAttr
def mn (h:Heap) (C:Addr) (us:List Value):Heap:=(h.push { cls:= .type "tuple",data:= .seq us.toArray }).push { cls:= .ref C,data:= .fields #[.ref h.objs.size,.none,.none,.none,.bool false,.none] }
theorem vA (e:h.get? b=some o):(mn h C us).get? b=some o:=a8 _ (a8 _ e)
theorem Mp:(mn h C us).get? (h.objs.size+1)=some { cls:= .ref C,data:= .fields #[.ref h.objs.size,.none,.none,.none,.bool false,.none] }:=by
 unfold mn;heap_get
section
variable{gs:Array GenState}{dr:Drawn}{tk:Nat}{os:OsState}
variable{qn:Str}{N:Addr}{bases up BW:List Value}{AR:Bool}{sl:List Str}{subs:List Value}{PY:Bool}{PZ:Option Bool}{e0 e1 e2 e3 e5:Option Value}{B BX RT:String}
variable{mN:Str->Option Value}{oI:Obj}
theorem V7 {Q:Fin->Shared->Prop} (F:ExcBaseFacts B BX RT BW) (T:OwnTail h BW up) (atC:h.get? C=some (excClassObj cn qn C N bases up AR sl subs PY PZ od e0 e1 e2 e3 e5 BX)) (IT:h.Ns N mN)
  (hi:mN "__init__" = some (.ref fI)) (cZ:h.get? fI=some oI) (IU:oI.cls = .type "function") (aX:us.length<=sizeLine)
  (run:wpAny (model P w) A (call (.ref fI) (.ref (h.objs.size+1)::us)) (fun r s'=>r = .none/\Q (.done (.ret (.ref (h.objs.size+1)))) s') E ⟨mn h C us,gs,dr,tk,os⟩) :
  wpAny (model P w) A (Builtin.«type.__call__» ⟨.ref C::us,[]⟩) Q E ⟨h,gs,dr,tk,os⟩:=by
 repeat (first|with_reducible refine Dc atC ?_|with_reducible refine wpAny_madeBy_exc atC ?_|wp_step)
 refine codeAny_call_builtin_code (Vs _ F.quiet) (wpAny_check_new_subT F T atC (codeAny_exc_new_subT F T atC ?_ aX));show wpAny _ _ _ _ _ (⟨mn h C us,gs,dr,tk,os⟩:Shared);have Qa:(mn h C us).get? C=_:=vA atC;have atE:(mn h C us).get? (h.objs.size+1)=_:=Mp;have has:(Value.ref C::up).contains (.ref C)=true:=List.contains_iff_mem.mpr aW;unfold isInstance
 repeat (first|with_reducible refine Dc atE ?_|(with_reducible refine wpAny_isSubtype_exc Qa ?_;rw[has])|wp_step)
 refine wpAny_typeLookup_tail (mN:=mN) Qa (IT.keeps fun _ _ e=>vA e) (T.keeps fun _ _ e=>vA e) F.mroIs F.init.lookup ?_;rw[hi];refine eI (aa (show wpAny _ _ (bindSpecial _ _) _ _ _ from ?_));unfold bindSpecial;refine aa (oY (T:= "function") ⟨oI,vA cZ,IU⟩ ?_);rw[ax (show _ from by decide)]
 refine ai (aa (aw run fun r s' hr=>?_));obtain⟨rfl,q⟩:=hr
 wp_walk
 exact q
theorem Wc (F:ExcBaseFacts B BX RT BW) (T:OwnTail h BW up) (atC:h.get? C=some (excClassObj cn qn C N bases up AR sl subs PY PZ od e0 e1 e2 e3 e5 BX)) (IT:h.Ns N mN)
  (hi:mN "__init__" = some (.ref fI)) (cZ:h.get? fI=some oI) (IU:oI.cls = .type "function") (aX:us.length<=sizeLine)
  (run:wpAny (model P w) (A.under (.builtin "type.__call__" ⟨.ref C::us,[]⟩)) (call (.ref fI) (.ref (h.objs.size+1)::us)) (fun r s'=>r = .none/\Q (.ref (h.objs.size+1)) s') E ⟨mn h C us,gs,dr,tk,os⟩) :
  wpAny (model P w) A (call (.ref C) us) Q E ⟨h,gs,dr,tk,os⟩:=by
 have l1:=tc_lookup;have l2:=tc_bind (.ref C);have ty:(⟨h,gs,dr,tk,os⟩:Shared).TypeIs (.ref C) "type" :=⟨_,atC,rfl⟩;refine qH (K1 (show wpAny _ _ (callAny (.ref C) _) _ _ _ from ?_))
 repeat (any_goals (first|assumption|with_reducible refine Dc atC ?_|wp_step))
 exact⟨rfl,codeAny_call_builtin_at (Vs _ (by decide +kernel)) entry_typeCall (wpAny_check_type_call_sub atC (V7 F T atC IT hi cZ IU aX run))⟩
end
abbrev BY:List Value:= [.type "ValueError",.type "Exception",.type "BaseException",.type "object"]
def jS (K:Frag) (C:Addr) (i:Option Value):Bool:=
  match K.lookup C with
  |some ⟨.type "type",_,.cls cls,slots⟩ =>
    (match cls.mro,slots.toList with
     |.ref C'::up,[_,_,_,_,some (.builtin n),_]=>C'==C && (n == "ValueError.__new__" && (!cls.hasDel && (tailIn K BY up && (nsOkIn K cls.ns && nsIn K cls.ns "__init__" == some i))))
     |_,_=>false)
  |_=>false
theorem Xd {N:Addr}{mp:Str->Option Value}{n:Str}{v:Value} (X:K.In h) (G:h.Ns N mp) (e:nsIn K N n=some (some v)):mp n=some v:=by
 obtain⟨ob,ens,_,at_,da,_,look⟩:=G;unfold nsIn at e;split at e
 next _ _ _ _ _ q =>
  have two:=X _ _ q;rw[at_]at two;cases two;cases da
  split at e
  next en he =>
   cases e
   rw[<-look,nsFind,findBy,<-Array.find?_toList,he];rfl
  next=>split at e <;> cases e
 next=>cases e
structure ExcAt (h:Heap) (C:Addr) (i:Option Value):Prop where
 ex:∃bm N nm q bs FY sn sub ab col dd k0 k1 k2 k3 k5 mN,h.get? C=some (excClassObj nm q C N bs bm FY sn sub ab col dd k0 k1 k2 k3 k5 "ValueError.__new__")/\h.Ns N mN/\mN "__init__" = i/\OwnTail h BY bm
theorem zC {i:Option Value} (X:K.In h) (q:jS K C i=true):ExcAt h C i:=by
 unfold jS at q;split at q
 next od cls slots at_ =>
  split at q
  next C' up a0 a1 a2 a3 n a5 em es =>
   obtain⟨p1,q⟩:=zi.mp q;obtain⟨p2,q⟩:=zi.mp q;obtain⟨p3,q⟩:=zi.mp q;obtain⟨p4,q⟩:=zi.mp q;obtain⟨p5,p6⟩:=zi.mp q;have e1:=eV.mp p1;have e2:=eV.mp p2;have e3:cls.hasDel=false:=by simpa using p3
   have e6:=eV.mp p6;subst e1 e2;obtain⟨nm,bs,mro,ns,qn,hd,sn,sb,ab,col,del⟩:=cls;have em':mro=_:=em;have uQ:del=false:=e3;subst em' uQ;obtain rfl:slots = #[a0,a1,a2,a3,some (.builtin "ValueError.__new__"),a5]:=by cases slots;exact eU Array.mk es
   refine⟨⟨up,ns,nm,qn,bs,hd,sn,sb,ab,col,od,a0,a1,a2,a3,a5,h.nsMap ns,X _ _ at_,.of_isNs (isNs_of_in X p5),?_,tail_of_in X p4⟩⟩;cases i with
   |none=>exact nsMap_none_of_in X p5 e6
   |some v=>exact Xd X (.of_isNs (isNs_of_in X p5)) e6
  next=>cases q
 next=>cases q
def uh:List Value->Bool
 |.ref _::r=>uh r
 |l=>l==BY
theorem WK:∀ {l:List Value},uh l=true->l=BY \/ ∃a r,l = .ref a::r/\uh r=true
 |[],e=>.inl (eV.mp e)
 |.ref a::r,e=>.inr ⟨a,r,rfl,e⟩
 |.none::r,e=>.inl (eV.mp e)
 |.bool b::r,e=>.inl (eV.mp e)
 |.int i t::r,e=>.inl (eV.mp e)
 |.float i t::r,e=>.inl (eV.mp e)
 |.str i t::r,e=>.inl (eV.mp e)
 |.bytes i t::r,e=>.inl (eV.mp e)
 |.type i::r,e=>.inl (eV.mp e)
 |.builtin i::r,e=>.inl (eV.mp e)
theorem YM (self:Value) (l:List Value):uh l=true->refuseLoop self "__setattr__" l=pure ():=by
 induction l with
 |nil=>intro e;exact absurd e (by decide)
 |cons v r ih =>
  intro e;rcases WK e with q|⟨a,r',q,e'⟩
  ·rw[q];kernel_rfl
  ·cases q
   rw[refuseLoop_ref];exact ih e'
structure gP (K:Frag) (C:Addr):Prop where
 ga:findIn K (.ref C) "__getattribute__" = some (some (.builtin "BaseException.__getattribute__"))
 gh:findIn K (.ref C) "__getattr__" = some none
 sa:findIn K (.ref C) "__setattr__" = some (some (.builtin "object.__setattr__"))
 hd:hasDictIn K C=true
 ov:((clsIn K C).any fun cd=>uh cd.mro)=true
 be:mroIn K C (.type "BaseException")=some true
 ve:mroIn K C (.type "ValueError")=some true
 ob:mroIn K C (.type "object")=some true
 ka:findIn K (.ref C) "__class__" = some (some (.builtin "object.__class__"))
 kn:specialIn K (.builtin "object.__class__") "__get__" = some (some (.builtin "getset_descriptor.__get__"))
 kt:takesIn K (.builtin "object.__class__")=some true
section
variable{x:Addr}{od:Option Obj}
theorem XT {R:Result->Shared->Prop}{v:Value} (X:K.In s.heap) (I:InstAt s.heap x ox C od) (c:gP K C) (no:findIn K (.ref C) name=some none)
  (go:wpAny (model prog w) A.in1 (storeInOwnDict (.ref x) (.ref C) (.str name tk) name v false) (fun fin s'=>match fin with|.done f=>R (.ok f) s'|.again c'=>c'.quiet=true/\codeAny (model prog w) A c' R s') (fun e s'=>R (.error e) s') s) :
  codeAny (model prog w) A (.call (.builtin "object.__setattr__") ⟨[.ref x,.str name tk,v],[]⟩) R s:=by
 obtain⟨cls,ic,ok⟩:=Dd c.ov;have ty:Looks (model prog w) s.heap (typeOf (.ref x)) (.ref C):=I.type;have up:Looks (model prog w) s.heap (mroOf (.ref C)) cls.mro:=Looks.andThen (looks_clsIn X ic) Looks.now;have abT:Looks (model prog w) s.heap (typeLookup (.ref C) name) none:=looks_findIn X no;refine K3 De.slot.plain De.entry (@check_slot (model prog w) _ _ s _ _ _ (.ref x) [.str name tk,v] [] _ De.kind De.split (ty.andThen (K4 X c.ob)) (De.args _ _ _) ?_);rw[osa_eq,refuse_eq];refine aa (aa (ty.here (aa (up.here ?_))));rw[YM _ _ ok];refine ai (show wpAny _ _ _ _ _ s from ?_);exact aa (ty.here (aa (abT.here (aa (ai go)))))
theorem Mq {fill:Bool} (X:K.In s.heap) (I:InstAt s.heap x ox C od) (c:gP K C)
  (h:wpAny (model prog w) A.in1 (Builtin.«object.__getattribute__» ⟨[.ref x,.str name tk],[]⟩) (fun fin s'=>match fin with|.done (.ret v)=>wpAny (model prog w) A (handedOut v) Q E s'|_=>False) (fun _ _=>False) s) :
  wpAny (model prog w) A (getAttrBy (.ref x) (.str name tk) fill expr) Q E s:=by
 have L0:=I.type (M:=model prog w);have L1:=looks_findIn (M:=model prog w) X c.ga;have L2:=looks_findIn (M:=model prog w) X c.gh;have sub:Looks (model prog w) s.heap (isInstance (.ref x) (.type "BaseException")) true:=I.type.andThen (K4 X c.be);have sh:(Value.builtin "BaseException.__getattribute__" == Value.builtin "object.__getattribute__")=false:=by decide +kernel
 have i9:(onTheHeap (Value.ref C) && Value.builtin "BaseException.__getattribute__" == Value.builtin "object.__getattribute__")=false:=by rw[sh];rfl
 have hk:builtinKind "BaseException.__getattribute__" = some .slot:=by decide +kernel
 have aa4:splitId "BaseException.__getattribute__" = some ("BaseException","__getattribute__"):=by decide +kernel
 unfold getAttrBy;refine eI (aa (L0.here (aa (L1.here ?_))))
 dsimp only
 rw[i9];show wpAny _ _ (getAttrByItsOwn _ _ _ _ _ _) _ _ _;unfold getAttrByItsOwn hookBefore;refine aa ?_;rw[ax (show onTheHeap (Value.ref C)=true from rfl)];refine L2.here (aa (Df (eI ?_)));unfold callGetattribute;rw[aj (show ¬ (expr && onTheHeap (Value.builtin "BaseException.__getattribute__"))=true by cases expr <;> decide)]
 unfold boundAndCalled;rw[anF.ga.bind];refine aa (ai (qH (K3 anF.ga.plain PySem.F.entry_bexc_ga (@check_slot (model prog w) _ _ s "BaseException.__getattribute__" "BaseException" "__getattribute__" (.ref x) [.str name tk] [] _ hk aa4 sub (PySem.F.args_bexc_ga _ _) ?_))));refine lZ h (fun fin s' z=>?_) fun _ _ z=>z.elim;rcases fin with(_|_|_|_)|_ <;> first|exact z|exact z.elim
theorem XU {v:Value}{Q:Fin->Shared->Prop} (X:K.In s.heap) (I:InstAt s.heap x ox C od) (hf:findObj K C od name=some (.value v)) (h:Q (.done (.ret v)) s) :
  wpAny (model prog w) A (Builtin.«object.__getattribute__» ⟨[.ref x,.str name tk],[]⟩) Q E s:=by
 have L0:=I.type (M:=model prog w);have L1:=looks_find (M:=model prog w) X I hf;refine aa (ai (aa (ai (aa (L0.here (aa (L1.here ?_)))))));exact ai h
theorem ZQ {v:Value} (X:K.In s.heap) (I:InstAt s.heap x ox C od) (c:gP K C) (hf:findObj K C od name=some (.value v)) (hh:handedIn v=true)
  (h:Q v { s with toks:=s.toks+1 }):wpAny (model prog w) A (getAttr (.ref x) name expr) Q E s:=by
 unfold getAttr;refine aa (wpAny_mkText ?_);exact Mq (s:={ s with toks:=s.toks+1 }) X I c (XU (s:={ s with toks:=s.toks+1 }) X I hf (handed_on hh h))
theorem XW {Q:Option Value->Shared->Prop} (X:K.In s.heap) (I:InstAt s.heap x ox C od) (c:gP K C) (h:Q (some (.ref C)) { s with toks:=s.toks+1 }):wpAny (model prog w) A (getAttr? (.ref x) "__class__") Q E s:=by
 have hf:findObj K C od "__class__" = some (.bind (.builtin "getset_descriptor.__get__") (.builtin "object.__class__")):=by
  obtain⟨cd,hc,_⟩:=Dd c.hd;unfold findObj;rw[hc,K5,c.ka,K5]
  dsimp only
  rw[c.kn,K5]
  dsimp only
  rw[c.kt,K5]
 unfold getAttr? getAttrBy?;refine aa (wpAny_mkText (aa (Df ?_)));have L0:=I.type (M:=model prog w);have L1:=looks_find (M:=model prog w) X I hf;refine Mq (s:={ s with toks:=s.toks+1 }) X I c ?_;refine aa (ai (aa (ai (aa (Looks.here (s:={ s with toks:=s.toks+1 }) L0 (aa (Looks.here (s:={ s with toks:=s.toks+1 }) L1 ?_)))))));show wpAny _ _ (holding [.builtin "object.__class__"] (call (.builtin "getset_descriptor.__get__") [.builtin "object.__class__",.ref x,.ref C]) >>= ret) _ _ _;refine aa (eI (qH (class_get (s:={ s with toks:=s.toks+1 }) (ox:=ox) (od:=od) X I c.ob ?_)));exact ai (handed_on rfl (ai h))
theorem Xe {M:Model} (X:K.In h) (c:gP K C):Looks M h (isType (.ref C)) true:=by
 obtain⟨cls,ic,_⟩:=Dd c.hd;unfold clsIn at ic;split at ic
 next at_ =>
  intro A' Q' E' s' k q;exact aa (KU (part:=some headPart) (k _ _ (X _ _ at_)) (ai q))
 next=>cases ic
theorem M9 (c:gP K C):KitX K (.ref x) (.ref C) (fun h=>InstAt h x ox C od) where
 ty:=fun _ _ _ I=>I.type
 it:=fun _ _ X _=>Xe X c
 ne:=fun h tp _ _ _ _ X tup=>by
  obtain⟨cls,ic,_⟩:=Dd c.hd;cases q:(Value.ref C == .ref tp) with
  |false=>rfl
  |true =>
   have e:C=tp:=Value.ref.inj (eV.mp q);unfold clsIn at ic;split at ic
   next at_ =>
    have two:=(X _ _ at_).symm;rw[e,tup]at two;cases two
   next=>cases ic
 ca:=fun X I k=>XW X I c k
end
theorem bu.there {o:HO} (x:bu P w H h a o):∃ob,h.get? a=some ob:=by
 cases o with
 |lst xs=>obtain⟨_,_,_,_,e⟩:=x;exact⟨_,e⟩
 |tup xs=>obtain⟨_,_,_,ob,e,_⟩:=x;exact⟨_,e⟩
 |dK kvs=>obtain⟨_,_,_,_,o,_,_,e,_⟩:=x;exact⟨_,e⟩
 |dT kvs=>obtain⟨_,_,_,_,o,_,_,e,_⟩:=x;exact⟨_,e⟩
 |set S n=>obtain⟨o,_,_,_,e,_⟩:=x;exact⟨_,e⟩
 |ins C dx fs=>obtain⟨_,_,_,e,_⟩:=x;exact⟨_,e⟩
 |own y=>exact x
 |xd fs=>obtain⟨_,⟨_,_,_,e,_⟩,_⟩:=x;exact⟨_,e⟩
 |xA lo hi=>obtain⟨_,_,_,e⟩:=x;exact⟨_,e⟩
 |cq ob u=>obtain⟨e,_⟩:=x;exact⟨_,e⟩
 |oj ps=>exact⟨_,x⟩
 |met f y=>exact⟨_,x⟩
 |ext φ=>exact x.2.1
section
variable{o:HO}
theorem Inv.EV (I:Inv X pins σ H s) (e:s.heap.get? a=none):H a=none:=by
 cases q:H a with
 |none=>rfl
 |some u =>
  obtain⟨ob,z⟩:=(I.au a u q).there;rw[e]at z;cases z
theorem Inv.put (I:Inv X pins σ H s) (k:∀b u,s.heap.get? b=some u->h'.get? b=some u) (e:s.heap.get? a=none) (new:bu X.prog X.w (upd H a o) h' a o):Inv X pins σ (upd H a o) { s with heap:=h' }:=by
 have hn:=I.EV e;have ne:∀b u,s.heap.get? b=some u->b≠a:=fun b u q z=>by rw[z,e]at q;cases q
 refine I.un (t':=s.toks) ⟨fun b u q n _ _=>k b u q,fun b u q n _ _=>⟨u.slots,k b u q⟩,fun b u q n _=>by rw[ag (ne b u q)];exact n,fun b u q _=>⟨u,k b u q⟩,fun b xs q=>by rw[ag (aq q hn)];exact q,
  fun b u v q=>by rw[ag (aq q hn)];exact q,fun b ps q=>⟨#[],by rw[ag (aq q hn),q];simp⟩⟩ fun b u q=>?_
 by_cases hb:b=a
 ·subst hb;rw[af]at q;cases q;exact new
 ·rw[ag hb]at q
  exact(I.au b u q).hW (fun c v _ z=>k c v z) (fun c z=>by rw[ag (aq z hn)];exact z) fun c xs z=>by rw[ag (aq z hn)];exact z
end
def cY (C:Addr) (dx:Option Addr) (a:Addr):HO:= .ext fun h=>∃t,h.get? a=some { cls:= .ref C,dict:=dx,data:= .fields #[.ref t,.none,.none,.none,.bool false,.none] }
def iD (d:Addr) (fs:List (Str×V)):HO:= .ext fun h=>fs.length<=100 /\ ∃mA,h.Ns1 d mA/\(∀f,gj (fs.lookup f) (mA f))/\PySem.Within mA (fs.map (·.1))
section
variable{fs:List (Str×V)}
theorem Ex {t:Addr} (e:h.get? a=some { cls:= .ref C,dict:=dx,data:= .fields #[.ref t,.none,.none,.none,.bool false,.none] }):bu P w H h a (cY C dx a):=
 ⟨⟨t,e⟩,⟨_,e⟩,fun _ _ ⟨t,q⟩ k=>⟨t,k _ q⟩⟩
theorem ZR (z:fs.length<=100) (n:h.Ns1 d mA) (r:∀f,gj (fs.lookup f) (mA f)) (wi:PySem.Within mA (fs.map (·.1))):bu P w H h d (iD d fs):=
 ⟨⟨z,mA,n,r,wi⟩,(let ⟨o,_,_,e,_⟩:=n;⟨o,e⟩),fun _ _ ⟨z,mA,n,r⟩ k=>⟨z,mA,n.at k,r⟩⟩
end
section
variable{fs:List (Str×V)}{f:Str}
theorem Inv.excAt (I:Inv X pins σ H s) (e:H a=some (cY C dx a)):∃t,s.heap.get? a=some { cls:= .ref C,dict:=dx,data:= .fields #[.ref t,.none,.none,.none,.bool false,.none] }:=(I.au a _ e).1
theorem Inv.Ey (I:Inv X pins σ H s) (e:H d=some (iD d fs)):fs.length<=100 /\ ∃mA,s.heap.Ns1 d mA/\(∀f,gj (fs.lookup f) (mA f))/\PySem.Within mA (fs.map (·.1)):=(I.au d _ e).1
theorem Xf {Q:Unit->Shared->Prop} (I:Inv X pins σ H s) (e:H a=some (cY C none a)) (c:gP X.K C) (no:findIn X.K (.ref C) f=some none) (ry:RelV y u)
  (h:∀d s',H d=none->d≠a->Inv X pins σ (upd (upd H d (iD d [(f,y)])) a (cY C (some d) a)) s'->Q () s'):wpAny (model X.prog X.w) A (setAttr (.ref a) f u) Q E s:=by
 obtain⟨t,at_⟩:=I.excAt e;have J:InstAt s.heap a _ C none:=⟨at_,rfl,rfl,True.intro⟩;refine PySem.W.set_plain I.bX J c.sa (XT (s:={ s with toks:=s.toks+1 }) I.bX J c no ?_);obtain⟨cls,ic,AR⟩:=Dd c.hd;refine aa (ai (aa (show wpAny _ _ (instanceDict a true) _ _ _ from ?_)));refine aa (KU (s:={ s with toks:=s.toks+1 }) at_ (aa (Looks.here (s:={ s with toks:=s.toks+1 }) (looks_clsIn I.bX ic) ?_)));rw[AR];refine aa (wpAny_alloc ?_);have fresh:s.heap.get? s.heap.objs.size=none:=C8 (aP _);have na:a≠s.heap.objs.size:=bx (a9 at_);have ja:(s.heap.push { cls:= .type "dict",data:= .dict #[] }).get? a=_:=a8 _ at_;refine aa (wpAny_update (s:={ s with heap:=s.heap.push { cls:= .type "dict",data:= .dict #[] },toks:=s.toks+1 }) ja (ai ?_));generalize eh:(s.heap.push { cls:= .type "dict",data:= .dict #[] }).update a (fun o=>{ o with dict:=some s.heap.objs.size })=h1;have at2:h1.get? a=some { cls:= .ref C,dict:=some s.heap.objs.size,data:= .fields #[.ref t,.none,.none,.none,.bool false,.none] }:=by
  rw[<-eh];exact zg _ ja rfl
 have xQ:∀b o,b≠a->s.heap.get? b=some o->h1.get? b=some o:=fun b o hb q=>by
  rw[<-eh,qI _ _ (aN hb)];exact a8 _ q
 have dAt:h1.get? s.heap.objs.size=some { cls:= .type "dict",data:= .dict #[] }:=by
  rw[<-eh,qI _ _ na];exact cp _ rfl
 have n0:h1.Ns1 s.heap.objs.size (fun _=>none):=Heap.Ns1.of_empty ⟨_,#[],_,dAt,rfl,(fun e he=>absurd he (by simp)),fun _=>rfl⟩
 refine aa (ai (aa (wpAny_nsSet1 (s:={ s with heap:=h1,toks:=s.toks+1 }) n0 fun h2 n2 sb=>?_)));have w0:PySem.Within (fun _=>none) ([]:List Str):=fun g hg=>absurd rfl hg;obtain⟨oD,esD,epD,IC,r6,ID⟩:=n2.count (PySem.Within.cons f u w0);refine aa (wpAny_lookBehind IC (by rw[r6];exact pastItsLine_dict (fw ID (by rw[d7,sS,aT];decide))) (ai ?_))
 refine h s.heap.objs.size _ (I.EV fresh) (aN na) ?_;have hd0:=I.EV fresh;have ui:∀b o,b≠a->s.heap.get? b=some o->h2.get? b=some o:=fun b o hb q=>(sb.2 b (fun z=>by rw[z,fresh]at q;cases q)).trans (xQ b o hb q)
 have RU:h2.get? a=_:=(sb.2 a na).trans at2;have heD:upd H s.heap.objs.size (iD s.heap.objs.size [(f,y)]) a=some (cY C none a):=by rw[ag na];exact e
 have I1:Inv X pins σ (upd H a (cY C (some s.heap.objs.size) a)) { s with heap:=h1,toks:=s.toks+1 }:=by
  refine I.write (x:=a) (e:=a) (by rw[e];exact True.intro) (.inl rfl) (fun b u hb q=>xQ b u hb q) ⟨_,at2⟩ (Ex at2)
 have uS:upd H a (cY C (some s.heap.objs.size) a) s.heap.objs.size=none:=by rw[ag (aN na)];exact hd0
 have cm:upd (upd H s.heap.objs.size (iD s.heap.objs.size [(f,y)])) a (cY C (some s.heap.objs.size) a)=upd (upd H a (cY C (some s.heap.objs.size) a)) s.heap.objs.size (iD s.heap.objs.size [(f,y)]):=by
  funext b
  unfold upd
  by_cases h1:b=a
  ·subst h1;rw[ax rfl,aj na,ax rfl]
  ·rw[aj h1]
   by_cases h2:b=s.heap.objs.size
   ·rw[ax h2,ax h2]
   ·rw[aj h2,aj h2,aj h1]
 rw[cm];have BZ:upd H a (cY C (some s.heap.objs.size) a) a=some (cY C (some s.heap.objs.size) a):=af;have fp:iC X pins (upd H a (cY C (some s.heap.objs.size) a)) s.heap.objs.size:=by
  have z:=I.mE (H':=upd H a (cY C (some s.heap.objs.size) a)) (aP _) uS;exact z
 have I2:Inv X pins σ (upd H a (cY C (some s.heap.objs.size) a)) { s with heap:=h2,toks:=s.toks+2 }:=
  Inv.turned (s:={ s with heap:=h1,toks:=s.toks+1 }) (h':=h2) I1 (it:=s.heap.objs.size) (t':=s.toks+2) (fun b o hb q=>(sb.2 b hb).trans q) fp.1 fp.2.1 fp.2.2.2.1 fp.2.2.2.2.1 fp.2.2.2.2.2
 refine⟨I2.ok,I2.os,I2.bare,?_,I2.loc,I2.cell,?_,?_,?_,?_,I2.len⟩
 ·have B:=I2.base
  have nb:∀b o,X.eG.heap.get? b=some o->b ∉ X.ex->b≠s.heap.objs.size:=fun b o q hx z=>by
   obtain⟨o',q'⟩:=I.base.there b o q hx;rw[z,fresh]at q';cases q'
  refine⟨B.keep,B.slot,fun b o q n hx=>by rw[ag (nb b o q hx)];exact B.free b o q n hx,B.there,fun b xs q=>?_,fun b o u q=>?_,fun b ps q=>?_⟩
  ·have z:=B.jt b xs q;rw[ag (aq z uS)];exact z
  ·have z:=B.ju b o u q;rw[ag (aq z uS)];exact z
  ·obtain⟨m,z⟩:=B.jU b ps q;exact⟨m,by rw[ag (aq z uS)];exact z⟩
 ·rw[ag (aN fp.2.1)];exact I2.free
 ·intro x c q;rw[ag (fp.2.2.2.2.1 x c q)];exact I2.gN x c q
 ·intro p hp
  obtain⟨p1,p2,p3,p4,p5⟩:=I2.pin p hp;exact⟨p1,by rw[ag (fp.2.2.2.2.2 p hp)];exact p2,p3,p4,p5⟩
 ·intro b o q
  by_cases hb:b=s.heap.objs.size
  ·subst hb
   rw[af]at q;cases q;refine ZR (by simp) n2 (fun g=>?_) (fun g hg=>?_)
   ·show gj (List.lookup g [(f,y)]) (if g=f then some u else none)
    rw[gE]
    by_cases q:g=f
    ·rw[ax q,eV.mpr q];exact ry
    ·rw[aj q,ng.mpr q];exact True.intro
   ·by_cases q:g=f
    ·rw[q];simp
    ·exact absurd (aj q) hg
  ·rw[ag hb]at q
   exact(I2.au b o q).hW (fun _ _ _ z=>z) (fun c z=>by rw[ag (aq z uS)];exact z) fun c xs z=>by rw[ag (aq z uS)];exact z
end
end L2
namespace L2
open PySem PySem.Spec PyProof.Rows PySem.W
mutual
inductive Rep (H:Hp):V->PyData->Prop where
 |aF:Rep H .aF .none
 |bl (b:Bool):Rep H (.bl b) (.bool b)
 |int (i:Int):Rep H (.int i) (.int i)
 |str (x:Str):Rep H (.str x) (.str x)
 |lst {a:Addr}{xs:List V}{ds:List PyData}:H a=some (.lst xs)->cP H xs ds->Rep H (.ref a) (.list ds)
 |tup {a:Addr}{xs:List V}{ds:List PyData}:H a=some (.tup xs)->cP H xs ds->Rep H (.ref a) (.tuple ds)
inductive cP (H:Hp):List V->List PyData->Prop where
 |nil:cP H [] []
 |cons {x:V}{d:PyData}{xs:List V}{ds:List PyData}:Rep H x d->cP H xs ds->cP H (x::xs) (d::ds)
end
section
mutual
theorem Rep.reads (I:Inv X pins σ H s):∀ {v:V}{d:PyData}{u:Value},Rep H v d->RelV v u -> ∃as,Reads s.heap u d as
 |_,_,_,.aF,r=>by cases r;exact⟨_,.none⟩
 |_,_,_,.bl b,r=>by cases r;exact⟨_,.bool b⟩
 |_,_,_,.int i,r=>by obtain⟨t,rfl⟩:=r;exact⟨_,.int i t⟩
 |_,_,_,.str x,r=>by obtain⟨t,rfl⟩:=r;exact⟨_,.str x t⟩
 |_,_,_,.lst (a:=a) (xs:=xs) e rs,r=>by
  cases r
  obtain⟨_,its,n,rv,at_⟩:=(show bu X.prog X.w H s.heap a (.lst xs) from I.au a _ e);obtain⟨as,ra⟩:=cP.reads I rs rv;exact⟨_,.list at_ rfl rfl ra⟩
 |_,_,_,.tup (a:=a) (xs:=xs) e rs,r=>by
  cases r
  obtain⟨_,its,rv,ob,at_,hc,n,hd,_⟩:=(show bu X.prog X.w H s.heap a (.tup xs) from I.au a _ e);obtain⟨as,ra⟩:=cP.reads I rs rv;exact⟨_,.tuple at_ hc hd ra⟩
theorem cP.reads (I:Inv X pins σ H s):∀ {vs:List V}{ds:List PyData}{us:List Value},cP H vs ds->Vals vs us -> ∃as,ReadsAll s.heap us ds as
 |_,_,_,.nil,r=>by cases r;exact⟨_,.nil⟩
 |_,_,_,.cons r rs,rv=>by
  cases rv with
  |cons q qs =>
   obtain⟨as,h1⟩:=Rep.reads I r q;obtain⟨bs,h2⟩:=cP.reads I rs qs;exact⟨_,.cons h1 h2⟩
end
mutual
theorem Rep.same:∀ {v:V}{d:PyData},Rep H v d->aB H H'->Rep H' v d
 |_,_,.aF,_=>.aF
 |_,_,.bl b,_=>.bl b
 |_,_,.int i,_=>.int i
 |_,_,.str x,_=>.str x
 |_,_,.lst e rs,k=>.lst (k _ _ e) (cP.same rs k)
 |_,_,.tup e rs,k=>.tup (k _ _ e) (cP.same rs k)
theorem cP.same:∀ {vs:List V}{ds:List PyData},cP H vs ds->aB H H'->cP H' vs ds
 |_,_,.nil,_=>.nil
 |_,_,.cons r rs,k=>.cons (Rep.same r k) (cP.same rs k)
end
end
def AS:R2:=fun x y H Q=>∃da db,Rep H x da/\Rep H y db/\da.canLay0=true/\db.canLay0=true/\da.depth<=60/\Q (.bl (PyData.eqv da db)) H
def uw:R2:=fun x y H Q=>∃da db,Rep H x da/\Rep H y db/\da.canLay0=true/\db.canLay0=true/\da.depth<=60/\Q (.bl (!PyData.eqv da db)) H
theorem Ae (hu:X.A.units+64 < cLine):cI X (compareOp .Eq) AS:=by
 intro pins s σ H x y v u Q I rx ry h;obtain⟨da,db,r1,r2,l1,l2,dp,q⟩:=h;obtain⟨as,h1⟩:=r1.reads I rx;obtain⟨bs,h2⟩:=r2.reads I ry;exact SeqAt.compareEq_reads h1 h2 l1 l2 (by omega) ⟨.bl _,H,I,rfl,q⟩
theorem lu (hu:X.A.units+64 < cLine):cI X (compareOp .NotEq) uw:=by
 intro pins s σ H x y v u Q I rx ry h;obtain⟨da,db,r1,r2,l1,l2,dp,q⟩:=h;obtain⟨as,h1⟩:=r1.reads I rx;obtain⟨bs,h2⟩:=r2.reads I ry;exact SeqAt.compareNe_reads h1 h2 l1 l2 (by omega) ⟨.bl _,H,I,rfl,q⟩
def adA (neg:Bool):R2:=fun x y H Q=>∃d ds,Rep H x d/\(Rep H y (.list ds)\/Rep H y (.tuple ds))/\d.canLay0=true/\PyData.canLayAll0 ds=true/\d.depth<=60 /\
 Q (.bl (if neg then !(ds.any fun y=>PyData.eqv y d) else ds.any fun y=>PyData.eqv y d)) H
theorem aa5 (hu:X.A.units+64 < cLine):cI X (compareOp .In) (adA false):=by
 intro pins s σ H x y v u Q I rx ry h;obtain⟨d,ds,r1,r2,l1,l2,dp,q⟩:=h;obtain⟨as,h1⟩:=r1.reads I rx;rcases r2 with r2|r2
 ·obtain⟨bs,h2⟩:=r2.reads I ry
  exact SeqAt.in_list_reads h2 h1 l2 l1 (by omega) ⟨.bl _,H,I,rfl,q⟩
 ·obtain⟨bs,h2⟩:=r2.reads I ry
  exact SeqAt.in_tuple_reads h2 h1 l2 l1 (by omega) ⟨.bl _,H,I,rfl,q⟩
def OX (H:Hp) (x:V):Prop:=(∃z:Str,x = .str z/\z.length<=100000)\/x = .aF \/ ∃a d,x = .ref a/\Rep H x d/\d.showable=true/\d.hasDict=false/\d.depth<=50/\d.shown.length<=100000
def adB (te:TE):TE:=fun σ H Q=>te σ H fun x H1=>OX H1 x /\ ∀y:Str,y.length<=100000->Q (.str y) H1
theorem aa6 (hu:X.A.units+64 < cLine) (hg:X.A.guards=some []) (he:PE X e te):PE X (.FormattedValue e (-1) none pos) (adB te):=by
 intro pins s σ H Q I h;refine wpAny_FormattedValue_plain (aw (he pins s σ H _ I h) fun v s1 ⟨x,H1,I1,rx,f,q⟩=>?_);rcases f with⟨z,rfl,hz⟩|rfl|⟨a,d,rfl,rd,hs,hd,hp,hl⟩
 ·obtain⟨t,rfl⟩:=rx
  exact wpAny_formatField_str ⟨.str z,H1,I1,⟨_,rfl⟩,q z hz⟩ ⟨.str z,H1,I1.tok _,⟨_,rfl⟩,q z hz⟩ (by rw[aT];omega)
 ·cases rx
  exact wpAny_formatField_none ⟨.str "None",H1,I1.tok _,⟨_,rfl⟩,q _ (by decide)⟩
 ·obtain⟨as,r⟩:=rd.reads I1 rx
  cases rx
  exact formatField_of_reads r hs (fun z=>by rw[hd]at z;cases z) hg (by omega) (fun _ _ z=>z) (fun h' u tk k=>⟨.str d.shown,H1,I1.kept k,⟨_,rfl⟩,q _ hl⟩) (by rw[aT];omega)
def PJ (X:Cx) (vs:List Expr) (n:Nat) (t:St->Hp->(Hp->Prop)->Prop):Prop:=
 ∀ (pins:List (Addr×Obj)) (s:Shared) (σ:St) (H:Hp) (acc:Str) (Q:Hp->Prop),acc.length+n * 100000<=2000000->Inv X pins σ H s->t σ H Q ->
  Joins (model X.prog X.w) X.A X.xe (evalEach vs X.env) acc (fun out s1=>out.length<=2000000 /\ ∃H1,Inv X pins σ H1 s1/\Q H1) s
def aa7 (te:TE) (tr:St->Hp->(Hp->Prop)->Prop):St->Hp->(Hp->Prop)->Prop:=fun σ H Q=>te σ H fun x H1=>(∃y:Str,x = .str y/\y.length<=100000)/\tr σ H1 Q
def aa8:St->Hp->(Hp->Prop)->Prop:=fun _ H Q=>Q H
theorem aa9:PJ X [] 0 aa8:=fun pins s σ H acc Q hz I h=>⟨by omega,H,I,h⟩
theorem N2 {v:Expr}{vs:List Expr}{tr:St->Hp->(Hp->Prop)->Prop} (hv:PE X v te) (hr:PJ X vs n tr):PJ X (v::vs) (n+1) (aa7 te tr):=by
 intro pins s σ H acc Q hz I h;refine aw (hv pins s σ H _ I h) fun u s1 ⟨x,H1,I1,rx,⟨y,e,hy⟩,q⟩=>?_;subst e;obtain⟨t,rfl⟩:=rx;have hl:(acc++y).length=acc.length+y.length:=strLen_append ..;exact⟨y,t,rfl,by rw[hl,aT];omega,hr pins s1 σ H1 (acc++y) Q (by rw[hl];omega) I1 q⟩
def abU (tr:St->Hp->(Hp->Prop)->Prop):TE:=fun σ H Q=>tr σ H fun H1=>∀y:Str,y.length<=2000000->Q (.str y) H1
theorem ZS {v1 v2:Expr}{rest:List Expr}{tr:St->Hp->(Hp->Prop)->Prop} (hr:PJ X (v1::v2::rest) n tr) (hn:n<=20:=by decide):PE X (.JoinedStr (v1::v2::rest) pos) (abU tr):=by
 intro pins s σ H Q I h;have z:=hr pins s σ H Str.empty _ (by have:Str.empty.length=0:=rfl;omega) I h
 refine wpAny_JoinedStr ?_;have mono:∀ (l:List (Sem Value)) (acc:Str) (P P':Str->Shared->Prop) (s:Shared),(∀o s,P o s->P' o s)->Joins (model X.prog X.w) X.A X.xe l acc P s->Joins (model X.prog X.w) X.A X.xe l acc P' s:=by
  intro l
  induction l with
  |nil=>intro acc P P' s k q;exact k _ _ q
  |cons a l ih=>intro acc P P' s k q;exact aw q fun v s1 ⟨y,t,e,hz,q'⟩=>⟨y,t,e,hz,ih _ P P' s1 k q'⟩
 refine mono _ _ _ _ _ ?_ z;rintro o s1 ⟨hz,H1,I1,q⟩;exact⟨by rw[aT];omega,.str o,H1,I1.tok _,⟨_,rfl⟩,q o hz⟩
end L2
namespace L2
open PySem PySem.Spec PyProof.Rows PySem.W
section
variable{Q:VK}{CX:j6}{k:Nat}{E:XK}{p:Pos}{t:TA}
theorem YN (q:jS X.K C (some (.ref fI))=true) (fn:isFn X.K (.ref fI)=true) (F:aS X.prog X.w X.K X.mg X.base CX k fI fd ps sp) (hr:bb (k+1) X.A) (hb:Binds X.K fd ps []) (hx:Passes CX X E) (I:Inv X pins σ H s) (r:Vals vs us) (aX:us.length<=100)
  (h:∀e,H e=none->sp (.ref e::vs) (upd H e (cY C none e)) (fun v H2=>v = .aF/\Q (.ref e) H2) E):wpAny (model X.prog X.w) X.A (call (.ref C) us) (EP X pins σ Q) X.xe s:=by
 obtain⟨⟨up,N,nm,qn,bs,hd,sn,sb,ab,col,od,a0,a1,a2,a3,a5,mN,at_,ns,ni,T⟩⟩:=zC I.bX q;obtain⟨oI,lk,oc⟩:=kB.mp (show(X.K.lookup fI).map (·.cls)=some (.type "function") from eV.mp fn);have h1:=h (s.heap.objs.size+1) (I.au.fresh (jN _));have bX:=I.bX;have I2:Inv X pins σ (upd H (s.heap.objs.size+1) (cY C none (s.heap.objs.size+1))) { s with heap:=mn s.heap C us }:=I.put (fun _ _ z=>vA z) (C8 (jN _)) (Ex Mp);have e0:=I2.AM.make C us [];have ig:=hr.make C us [];have r2:Vals (V.ref (s.heap.objs.size+1)::vs) (Value.ref (s.heap.objs.size+1)::us):= .cons rfl r;have hl:(Value.ref (s.heap.objs.size+1)::us).length=ps.length:=by rw[<-r2.length];exact F.len _ _ _ _ h1
 have RV:=hb { s with heap:=mn s.heap C us } (Value.ref (s.heap.objs.size+1)::us) I2.bX (by rw[jM];exact hl)
 rw[jM]at RV;have run:=F.run _ X.stack _ _ ⟨Value.ref (s.heap.objs.size+1)::us,[]⟩ (Value.ref (s.heap.objs.size+1)::us) _ _ E ig e0 RV r2 h1;obtain⟨hp,g,d,tk,os⟩:=s;refine Wc anG T at_ ns ni (bX _ _ lk) oc (by rw[aT];omega) (qH (sN run fun r s' hq=>?_))
 cases r with
 |error e=>exact hx pins σ _ _ e s' I2 hq
 |ok fl =>
  cases fl with
  |ret u =>
   obtain⟨v,H',I3,rv,ev,q3⟩:=I2.after hq;subst ev;exact⟨rv,.ref (hp.objs.size+1),H',I3,rfl,q3⟩
  |next=>exact False.elim hq
  |brk=>exact False.elim hq
  |cont=>exact False.elim hq
def abV (C:Addr) (sp:Sp) (E:XK) (t:TA):TE:=fun σ H Q=>t σ H fun vs H1=>vs.length<=100 /\ ∀e,H1 e=none->sp (.ref e::vs) (upd H1 e (cY C none e)) (fun v H2=>v = .aF/\Q (.ref e) H2) E
theorem ZT (q:jS X.K C (some (.ref fI))=true) (fn:isFn X.K (.ref fI)=true) (kp:keepIn X.K (.ref C)=true) (F:aS X.prog X.w X.K X.mg X.base CX k fI fd ps sp) (hr:bb (k+1) X.A) (hb:Binds X.K fd ps []) (hx:Passes CX X E)
  (hg:Gl X x) (hm:X.mg x=some (.ref C)) (ha:PA X (e::es) t) (cN:(x==("__debug__" : Str))=false:=by decide)
  (he:starEach (e::es) X.env=(false,eval e X.env)::starEach es X.env:=by rfl) (cS:(backTo pos (starEach es X.env)).any (·.1)=false:=by rfl):PE X (.Call (.Name x p) (e::es) [] pos) (abV C sp E t):=by
 intro pins s σ H Q I h;refine ze (tR I hg hm ?_ cN);refine callWith_K (h₀:=X.base) I.ok.mod.rT kp (aw (ha pos pins s σ H _ I h) fun us s1 ⟨vs,H1,I1,r,aX,q1⟩=>⟨I1.bX,?_⟩) he cS;exact YN q fn F hr hb hx I1 r (by show us.length<=100;rw[<-r.length];exact aX) q1
structure EW (K:Frag) (B:Addr):Prop where
 rd:readsIn K B (.type "type")=true
 ga:specialIn K (.ref B) "__getattribute__" = some (some (.builtin "type.__getattribute__"))
 fi:findCls K (.ref B) (.type "type") "__init__" = some (.val (.builtin "ValueError.__init__"))
theorem Wt {i:Option Value} (c:gP X.K C) (q:jS X.K C i=true) (I:Inv X pins σ H s) (e:H a=some (cY C dx a)) (h:Q .aF H) :
  wpAny (model X.prog X.w) X.A (call (.builtin "ValueError.__init__") [.ref a,u]) (EP X pins σ Q) X.xe s:=by
 obtain⟨t,at_⟩:=I.excAt e;obtain⟨⟨up,N,nm,qn,bs,hd,sn,sb,ab,col,od,a0,a1,a2,a3,a5,mN,atC,ns,ni,T⟩⟩:=zC I.bX q;have FI:=anG;obtain⟨hp,g,d,tk,os⟩:=s;refine qH (K3 FI.init.plain FI.initEntry (wpAny_check_init_subT (rest:= [u]) FI T atC at_ rfl ?_));have ja:(hp.push { cls:= .type "tuple",data:= .seq #[u] }).get? a=some { cls:= .ref C,dict:=dx,data:= .fields #[.ref t,.none,.none,.none,.bool false,.none] }:=a8 _ at_;have at2:((hp.push { cls:= .type "tuple",data:= .seq #[u] }).update a (Obj.mapFields fun z=>z.setIfInBounds 0 (.ref hp.objs.size))).get? a=some { cls:= .ref C,dict:=dx,data:= .fields #[.ref hp.objs.size,.none,.none,.none,.bool false,.none] }:=zg _ ja rfl;have fin:∀oE,EP X pins σ Q .none ⟨(hp.push { cls:= .type "tuple",data:= .seq #[u] }).update a (Obj.mapFields fun z=>z.setIfInBounds 0 (.ref hp.objs.size)),g,d,oE,os⟩:=fun oE=>by
  refine⟨.aF,upd H a (cY C dx a),?_,rfl,?_⟩
  ·exact Inv.write (s:=⟨hp,g,d,tk,os⟩) I (x:=a) (e:=a) (t':=oE) (by rw[e];exact True.intro) (.inl rfl) (fun b o hb z=>by rw[qI _ _ (aN hb)];exact a8 _ z) ⟨_,at2⟩ (Ex at2)
  ·have:upd H a (cY C dx a)=H:=by
    funext b;unfold upd
    by_cases hb:b=a
    ·rw[ax hb,hb,e]
    ·rw[aj hb]
   rw[this];exact h
 wp_walk
 exact fin _
def XX (X:Cx) (t:TA):TE:=fun σ H Q=>t σ H fun vs H1=>∃a C dx y i,vs = [.ref a,y]/\H1 a=some (cY C dx a)/\gP X.K C/\jS X.K C i=true/\Q .aF H1
theorem WL {pl:Sem Bool} (b:EW X.K B) (hg:Gl X x) (hm:X.mg x=some (.ref B)) (ha:PA X (e::es) t) (cN:(x==("__debug__" : Str))=false:=by decide)
  (he:starEach (e::es) X.env=(false,eval e X.env)::starEach es X.env:=by rfl) (cS:(backTo pos (starEach es X.env)).any (·.1)=false:=by rfl)
  (ht:eval (.Call (.Attribute (.Name x p) "__init__" apos) (e::es) [] pos) X.env=(do
   let ov <- eval (.Name x p) X.env
   standAt apos.atName
   let (f,first) <- holding [ov] (getMethod ov "__init__" pl)
   callWith pos f first (backTo pos (starEach (e::es) X.env)) (backToKw pos (keywordEach [] X.env))):=by rfl) :
  PE X (.Call (.Attribute (.Name x p) "__init__" apos) (e::es) [] pos) (XX X t):=by
 intro pins s σ H Q I h;refine methodCall_KW (pl:=pl) (tR I hg hm ?_ cN) ht;refine method_cls I.bX b.ga (cls_value I.bX b.rd b.fi rfl ?_);refine anw (aw (ha pos pins { s with toks:=s.toks+1 } σ H _ (I.tok _) h) fun us s1 ⟨vs,H1,I1,r1,q1⟩=>?_) he cS;obtain⟨a,C,dx,y,i,rfl,ea,c,qi,q⟩:=q1;obtain⟨u1,u2,rfl,r2,r3⟩:=r1.two;cases r2
 exact Wt c qi I1 ea q
end
section
variable{o:Expr}{f:Str}
def abW (X:Cx) (ta tv:TE) (f:Str):TS:=fun D σ H=>tv σ H fun y H1=>ta σ H1 fun x H2=>∃a C,x = .ref a/\H2 a=some (cY C none a)/\gP X.K C/\findIn X.K (.ref C) f=some none /\
 ∀d,H2 d=none->d≠a->D.nx σ (upd (upd H2 d (iD d [(f,y)])) a (cY C (some d) a))
theorem ZU (ha:PE X o ta) (hv:PE X value tv) (hs:swapsWith value (some (.Attribute o f pos')) pos.line X.env=pure false:=by rfl):PS X (.Assign [.Attribute o f pos'] value pos) (abW X ta tv f):=by
 intro pins s σ H D I h;refine anp (aw (hv pins s σ H _ I h) fun u s1 ⟨y,H1,I1,ry,q⟩=>aw (ha pins s1 σ H1 _ I1 q) fun ov s2 ⟨x,H2,I2,rx,a,C,ex,ea,c,n,q2⟩=>?_) hs;subst ex;obtain rfl:ov=Value.ref a:=rx;exact Xf I2 ea c n ry fun d s3 h1 h2 I3=>⟨σ,_,I3,q2 d h1 h2⟩
def adC (K:Frag):List V->Hp->VK->Prop:=fun xs H Q=>∃x c t cv b,xs = [x,c]/\RelV c cv/\(jV K H x t \/ ∃a C dx,x = .ref a/\t = .ref C/\H a=some (cY C dx a)/\gP K C/\(∀d,dx=some d -> ∃fs,H d=some (iD d fs)))/\kitOne K t cv=some b/\Q (.bl b) H
theorem M':eu X (.builtin "isinstance") (fun xs H Q=>(∃x,(∃C,xs = [x,.ref C])\/(∃T,xs = [x,.ty T]))/\adC X.K xs H Q):=by
 intro pins s σ H xs us Q I r h;obtain⟨hx,x,c,t,cv,b,rfl,rc,ty,e,q⟩:=h;obtain⟨u,w',rfl,ru,iJ⟩:=r.two;have ecv:w'=cv:=by
  obtain⟨x',⟨C,z⟩|⟨T,z⟩⟩:=hx
  ·cases z;cases rc;cases iJ;rfl
  ·cases z;cases rc;cases iJ;rfl
 subst ecv;rcases ty with ty|⟨a,C,dx,rfl,rfl,ea,c,hd⟩
 ·exact XO I ru ty e fun tk=>⟨.bl b,H,I.tok _,rfl,q⟩
 ·cases ru
  obtain⟨t,at_⟩:=I.excAt ea;cases dx with
  |none =>
   have J:InstAt s.heap a _ C none:=⟨at_,rfl,rfl,True.intro⟩;exact kia_one (M9 c) I.bX J e (fun z=>nomatch z) fun tk=>⟨.bl b,H,I.tok _,rfl,q⟩
  |some d =>
   obtain⟨fs,ed⟩:=hd d rfl;obtain⟨_,mA,n,_⟩:=I.Ey ed;obtain⟨od,j7,_⟩:=zy n;have J:InstAt s.heap a _ C (some od):=⟨at_,rfl,rfl,j7⟩;exact kia_one (M9 c) I.bX J e (fun z=>nomatch z) fun tk=>⟨.bl b,H,I.tok _,rfl,q⟩
end
def xR (K:Frag) (l:Addr):It:=
 ⟨fun i H=>∃xs x,ak K H l xs/\xs[i]? = some x,fun i H x H'=>∃t v,H t=none/\x = .ref t/\(∀xs,ak K H l xs->xs[i]? = some v)/\H'=upd H t (.tup [.int i,v]),fun i H=>∃xs,ak K H l xs/\xs.length<=i⟩
theorem XY (l e it:Addr) (bY:e≠it) :
  Turn P w K (.Tuple elts n1 tp) (xR K l) [e,it] e (fun i h=>(∃old,IsEnum h e it i old)/\h.IsListIter it l i) where
 mem:=by simp
 obj:=fun i h st b hb=>by
  obtain⟨⟨old,h1⟩,h2⟩:=st;rcases bj.mp hb with z|z
  ·subst z;exact⟨_,h1,fun v q=>by cases q⟩
  ·have z':b=it:=by simpa using z
   subst z';obtain⟨o,q,_,d⟩:=h2;exact⟨o,q,fun v z=>by rw[d]at z;cases z⟩
 keep:=fun i h h' st k=>by
  obtain⟨⟨old,h1⟩,h2⟩:=st;exact⟨⟨old,k e (by simp) _ h1⟩,h2.at fun o q=>k it (by simp) o q⟩
 item:=by
  intro X hP hw hK hc i pins s σ H E I hf st hg;subst hP hw hK;obtain⟨xs,x,hq,hx⟩:=hg;obtain⟨its,rv,p,hz⟩:=I.list hq;obtain⟨u,hu,ru⟩:=rv.get hx;obtain⟨⟨old,h1⟩,h2⟩:=st;have fe:=hf e (by simp)
  have fi:=hf it (by simp)
  refine wpAny_pyNext_enum_item h1 h2 p.isList (x:=u) (by simpa using hu) bY fun h' e1 i1 t1 z1 k1=>⟨_,rfl,?_⟩
  refine wpAny_letOwnedTupleGo_enum (s:={ s with heap:=h',toks:=s.toks+1 }) e1 fun iL e2 sb=>?_;have eS:e≠s.heap.objs.size:=bx (a9 h1);have k2:∀b o,b≠e->b≠it->s.heap.get? b=some o->iL.get? b=some o:=fun b o n1 n2 q=>(sb.2 b n1).trans (k1 b o n1 n2 q);have t2:iL.get? s.heap.objs.size=some { cls:= .type "tuple",data:= .seq #[.int i s.toks,u] }:=(sb.2 _ (aN eS)).trans t1;have hn:H s.heap.objs.size=none:=I.au.fresh (aP _);have lt:∀b o,s.heap.get? b=some o->b≠s.heap.objs.size:=fun b o q=>bx (a9 q);have kH:∀b o,H b=some o->b≠e/\b≠it:=fun b o q=>⟨(fun z=>by rw[z,fe.1]at q;cases q),(fun z=>by rw[z,fi.1]at q;cases q)⟩
  have iH:∀b,b ∉ [e,it]->b≠e/\b≠it:=fun b hb=>⟨fun z=>hb (by simp[z]),fun z=>hb (by simp[z])⟩
  have J:Inv X pins σ (upd H s.heap.objs.size (.tup [.int i,x])) { s with heap:=iL,toks:=s.toks+1 }:=by
   refine I.step (g':=s.gens) (d':=s.drawn) (t':=s.toks+1) (ch:= [e,it]) (fun b hb=>?_) (fun b o _ _ hc q _=>k2 b o (iH b hc).1 (iH b hc).2 q) (fun b o _ _ hc q _=>⟨o.slots,k2 b o (iH b hc).1 (iH b hc).2 q⟩)
    (fun b o _ q n=>by rw[ag (lt b o q)];exact n) (fun b o hc q=>⟨o,k2 b o (iH b hc).1 (iH b hc).2 q⟩) (fun b ys q=>by rw[ag (aq q hn)];exact q) (fun b o v q=>by rw[ag (aq q hn)];exact q)
    (fun b ps q=>⟨#[],by rw[ag (aq q hn),q];simp⟩) (fun m hm=>?_) (fun b o q=>?_) I.bare
   ·rcases bj.mp hb with z|z
    ·subst z;exact⟨fe.2.2.2.1,fe.2.1,fe.2.2.2.2.1,fe.2.2.2.2.2⟩
    ·have z':b=it:=by simpa using z
     subst z';exact⟨fi.2.2.2.1,fi.2.1,fi.2.2.2.2.1,fi.2.2.2.2.2⟩
   ·obtain⟨o,es,ep,ho,r⟩:=hm
    exact⟨o,es,ep,k2 _ o (aN fe.2.1) (aN fi.2.1) ho,r⟩
   ·by_cases hb:b=s.heap.objs.size
    ·subst hb
     rw[af]at q;cases q;exact⟨by rw[aT];show 2<=_;decide,[.int i s.toks,u],.cons ⟨_,rfl⟩ (.cons ru .nil),_,t2,rfl,_,rfl,rfl⟩
    ·rw[ag hb]at q
     refine(I.au b o q).hW (fun c v hc z=>?_) (fun c z=>by rw[ag (aq z hn)];exact z) fun c ys z=>by rw[ag (aq z hn)];exact z
     rcases hc with hc|hc
     ·subst hc;exact k2 _ v (kH _ _ q).1 (kH _ _ q).2 z
     ·exact k2 c v (kH _ _ hc).1 (kH _ _ hc).2 z
  refine⟨.ref s.heap.objs.size,_,J,rfl,⟨s.heap.objs.size,x,hn,rfl,fun ys hy=>by rw[I.M5 hy hq];exact hx,rfl⟩,⟨⟨u,e2⟩,?_⟩,fun b hb=>?_⟩
  ·exact i1.extBut sb.extBut (aN bY)
  ·have:b≠s.heap.objs.size:=by
    rcases bj.mp hb with z|z
    ·rw[z];exact eS
    ·have z':b=it:=by simpa using z
     obtain⟨o,q,_⟩:=h2;rw[z'];exact lt _ _ q
   rw[ag this];exact(hf b hb).1
 done:=by
  intro X hP hw hK hc i pins s σ H E I hf st hg;subst hP hw hK;obtain⟨xs,hq,hx⟩:=hg;obtain⟨its,rv,p,hz⟩:=I.list hq;obtain⟨⟨old,h1⟩,h2⟩:=st;have fi:=hf it (by simp)
  have hl:=rv.length;exact wpAny_pyNext_enum_end (I.ok.hd hc) h1 h2 p.isList (by simp;omega) fun h' eb=>⟨rfl,I.turned (t':=s.toks) (fun b o hb q=>eb b o hb q) fi.1 fi.2.1 fi.2.2.2.1 fi.2.2.2.2.1 fi.2.2.2.2.2⟩
 self:=fun _ _ _ _ _ st h=>let ⟨⟨_,h1⟩,_⟩:=st;wpAny_pyIter_enum h1 h
def abX (K:Frag) (ta:TA):TI:=fun σ H R=>ta σ H fun vs H1=>∃a,vs = [.ref a]/\(∃xs,ak K H1 a xs)/\R (xR K a) H1
theorem ZV {a:Expr}{ta:TA}{p:Pos} (hg:Gl X "enumerate") (hm:X.mg "enumerate" = none) (ha:PA X [a] ta) (hs:starEach [a] X.env = [(false,eval a X.env)]:=by rfl) :
  PI X (.Tuple elts n1 tp) (.Call (.Name "enumerate" p) [a] [] pos) (abX X.K ta):=by
 intro pins s σ H R I h;refine Call_ (vZ I hg hm (show bootBuiltins "enumerate" = some (.type "enumerate") by decide +kernel) (Vd (aw (ha pos pins s σ H _ I h) fun us s1 ⟨vs,H1,I1,r1,q1⟩=>?_) hs rfl))
 obtain⟨l,e,⟨xs,hq⟩,q⟩:=q1;subst e;obtain⟨u,rfl,ru⟩:=r1.one;cases ru
 obtain⟨its,rv,pl,hz⟩:=I1.list hq;refine call_enumerate_list pl.isList fun h' e1 i1 z1 k1=>?_;have I2:Inv X pins σ H1 { s1 with heap:=h' }:=I1.kept (t':=s1.toks) k1;refine wpAny_pyIter_enum (s:={ s1 with heap:=h' }) e1 ?_;refine⟨s1.heap.objs.size+1,[s1.heap.objs.size+1,s1.heap.objs.size],_,_,H1,rfl,I2,XY l (s1.heap.objs.size+1) s1.heap.objs.size (Nat.succ_ne_self _),⟨⟨.none,e1⟩,i1⟩,fun b hb=>?_,q⟩;rcases bj.mp hb with z|z
 ·subst z;exact I1.mE (jN _) (I1.au.fresh (jN _))
 ·have z':b=s1.heap.objs.size:=by simpa using z
  subst z';exact I1.mE (aP _) (I1.au.fresh (aP _))
theorem vC:∀ {ys:List Str}{us:List Value},Vals (ys.map V.str) us->StrsAre us ys:=by
 intro ys
 induction ys with
 |nil=>intro us r;cases r;exact .nil
 |cons y ys ih =>
  intro us r;cases r with
  |cons q qs =>
   obtain⟨t,rfl⟩:=q;exact .cons _ _ (ih qs)
def rJoin (K:Frag):V->List V->Hp->VK->Prop:=fun x vs H Q=>∃ (z:Str) (p:Addr) (ys:List Str),x = .str z/\vs = [.ref p]/\(ak K H p (ys.map V.str)\/aE K H p (ys.map V.str))/\(ys.map (·.length)).sum+ys.length * z.length<=1000000/\Q (.str (Txt.join z ys)) H
theorem ZW:IG X "str.join" (rJoin X.K):=by
 intro pins s σ H x xs v us Q I rx rv h;obtain⟨z,p,ys,rfl,rfl,hp,hz,q⟩:=h;obtain⟨t,rfl⟩:=rx;obtain⟨u,rfl,ru⟩:=rv.one;cases ru
 rcases hp with hp|hp
 ·obtain⟨its,r,pl,_⟩:=I.list hp
  exact join_list pl.isList (by simpa using vC r) (by omega) fun t' k=>⟨.str _,H,I.tok _,⟨_,rfl⟩,q⟩
 ·obtain⟨its,r,pl,_⟩:=I.tuple hp
  exact join_tuple pl (by simpa using vC r) (by omega) fun t' k=>⟨.str _,H,I.tok _,⟨_,rfl⟩,q⟩
def adD:V->Option Int->Option Int->Hp->VK->Prop:=fun x lo hi H Q=>∃z:Str,x = .str z/\z.length<=1000000/\Q (.str (Txt.slice z lo hi)) H
theorem aba:uL X adD:=by
 intro pins s σ H x v vl vu lo hi sl Q I rx hs pl pu h;obtain⟨z,rfl,hz,q⟩:=h;obtain⟨t,rfl⟩:=rx;have fz:(Txt.slice z lo hi).length<=sizeLine:=fw (Txt.slice_le z _ _) (by rw[aT];omega)
 refine⟨"str",_,PySem.F.slot_str_getitem.lookup,typeIs_str _ _ _,?_⟩;cases pl with
 |none =>
  cases pu with
  |none=>exact K7 (l:=none) (u:=none) (st:=none) hs rfl (K8 ⟨fz,fun t' k=>⟨.str _,H,I.tok _,⟨_,rfl⟩,q⟩⟩)
  |int j tj=>exact K7 (l:=none) (u:=some (j,tj)) (st:=none) hs rfl (K8 ⟨fz,fun t' k=>⟨.str _,H,I.tok _,⟨_,rfl⟩,q⟩⟩)
 |int i ti =>
  cases pu with
  |none=>exact K7 (l:=some (i,ti)) (u:=none) (st:=none) hs rfl (K8 ⟨fz,fun t' k=>⟨.str _,H,I.tok _,⟨_,rfl⟩,q⟩⟩)
  |int j tj=>exact K7 (l:=some (i,ti)) (u:=some (j,tj)) (st:=none) hs rfl (K8 ⟨fz,fun t' k=>⟨.str _,H,I.tok _,⟨_,rfl⟩,q⟩⟩)
def CW (Pv:Nat->List V->St->Hp->Prop) (n i m:Nat) (ys:List V) (τ:St) (H:Hp):Prop:=m=n - i/\i<=n/\Pv i ys τ H
theorem cw_next {Pv:Nat->List V->St->Hp->Prop}{τ:St} (h:i < n) (p:Pv (i+1) ys τ H):∃m',m' < n - i/\CW Pv n (i+1) m' ys τ H:=⟨n - (i+1),by omega,rfl,h,p⟩
theorem LV {g:TG}{Q:VK} (Pv:Nat->List V->St->Hp->Prop) (h0:Pv 0 [] iI (upd H1 p (.lst []))) (hl:∀i ys τ H,Pv i ys τ H->H p=some (.lst ys))
  (hs:∀i ys τ H,i < n->Pv i ys τ H->g (.int (lo+i)) τ H fun cz H4=>ti cz H4 fun b H5=>if b=true then te cz H5 fun y H6=>H6 p=some (.lst ys)/\ys.length < sizeLine /\ ∃m',m' < n - i/\CW Pv n (i+1) m' (ys ++ [y]) cz (upd H6 p (.lst (ys ++ [y]))) else ∃m',m' < n - i/\CW Pv n (i+1) m' ys cz H5)
  (hd:∀ys τ H,Pv n ys τ H->Q (.ref p) H):mr (rX lo n) g ti te iI Q p H1:=by
 refine⟨CW Pv n,⟨n,by simp,bf _,h0⟩,?_⟩
 rintro i m ys τ H ⟨rfl,hi,pv⟩;refine⟨hl i ys τ H pv,?_⟩
 by_cases aV:i < n
 ·refine .inr ⟨aV,fun x H3 y3=>?_⟩
  obtain⟨e3,ex⟩:=y3;subst e3 ex;exact hs i ys τ _ aV pv
 ·have e:i=n:=by omega
  subst e;exact .inl ⟨aP _,hd ys τ H pv⟩
theorem iS {g:TG}{Q:VK} (Pv:Nat->List V->St->Hp->Prop) (h0:Pv 0 [] iI (upd H1 p (.lst []))) (hl:∀i ys τ H,Pv i ys τ H->H p=some (.lst ys)/\ak K H a xs)
  (hs:∀i x ys τ H,xs[i]? = some x->Pv i ys τ H->g x τ H fun cz H4=>ti cz H4 fun b H5=>if b=true then te cz H5 fun y H6=>H6 p=some (.lst ys)/\ys.length < sizeLine /\ ∃m',m' < xs.length - i/\CW Pv xs.length (i+1) m' (ys ++ [y]) cz (upd H6 p (.lst (ys ++ [y]))) else ∃m',m' < xs.length - i/\CW Pv xs.length (i+1) m' ys cz H5)
  (hd:∀ys τ H,Pv xs.length ys τ H->Q (.ref p) H):mr (rW K a) g ti te iI Q p H1:=by
 refine⟨CW Pv xs.length,⟨xs.length,by simp,bf _,h0⟩,?_⟩
 rintro i m ys τ H ⟨rfl,hi,pv⟩;obtain⟨hp,hq⟩:=hl i ys τ H pv;refine⟨hp,?_⟩
 by_cases aV:i < xs.length
 ·refine .inr ⟨⟨xs,xs[i],hq,by simp[aV]⟩,fun x H3 y3=>?_⟩
  obtain⟨e3,ex⟩:=y3;subst e3;exact hs i x ys τ _ (ex xs hq) pv
 ·have e:i=xs.length:=by omega
  subst e;exact .inl ⟨⟨xs,hq,aP _⟩,hd ys τ H pv⟩
theorem vM {g:TG}{Q:VK} (Pv:Nat->List V->St->Hp->Prop) (h0:Pv 0 [] iI (upd H1 p (.lst []))) (hl:∀i ys τ H,Pv i ys τ H->H p=some (.lst ys)/\aE K H a xs)
  (hs:∀i x ys τ H,xs[i]? = some x->Pv i ys τ H->g x τ H fun cz H4=>ti cz H4 fun b H5=>if b=true then te cz H5 fun y H6=>H6 p=some (.lst ys)/\ys.length < sizeLine /\ ∃m',m' < xs.length - i/\CW Pv xs.length (i+1) m' (ys ++ [y]) cz (upd H6 p (.lst (ys ++ [y]))) else ∃m',m' < xs.length - i/\CW Pv xs.length (i+1) m' ys cz H5)
  (hd:∀ys τ H,Pv xs.length ys τ H->Q (.ref p) H):mr (ou K a) g ti te iI Q p H1:=by
 refine⟨CW Pv xs.length,⟨xs.length,by simp,bf _,h0⟩,?_⟩
 rintro i m ys τ H ⟨rfl,hi,pv⟩;obtain⟨hp,hq⟩:=hl i ys τ H pv;refine⟨hp,?_⟩
 by_cases aV:i < xs.length
 ·refine .inr ⟨⟨xs,xs[i],hq,by simp[aV]⟩,fun x H3 y3=>?_⟩
  obtain⟨e3,ex⟩:=y3;subst e3;exact hs i x ys τ _ (ex xs hq) pv
 ·have e:i=xs.length:=by omega
  subst e;exact .inl ⟨⟨xs,hq,aP _⟩,hd ys τ H pv⟩
def FZ (N N':List Str) (b5:List (Option Nat)) (sc:Scope):Bool:=(List.range b5.length).all fun j=>match b5[j]? with
 |some (some i)=>(match N[i]? with|some x=>N'[j]? == some x && sc.names.lookup x==some .free|none=>false)
 |_=>true
theorem OY (h:FZ N N' b5 sc=true) (j i:Nat) (e:b5[j]? = some (some i)):∃x,N[i]? = some x/\N'[j]? = some x/\sc.names.lookup x=some .free:=by
 have hj:j < b5.length:=(cu.mp e).1;have z:=zj.mp h j (oT.mpr hj);rw[e]at z
 dsimp only at z
 split at z
 ·rename_i x q
  obtain⟨z1,z2⟩:=zi.mp z;exact⟨x,q,eV.mp z1,eV.mp z2⟩
 ·cases z
structure Nm (x:Str):Prop where
 lo:1<=x.length
 hi:x.length<=8
 az:∀c∈x.cps.toList,97<=c/\c<=122
def sign (c:Nat):Str:=⟨#[c]⟩
theorem LW:∀ (cs:List Nat) (acc:Array Nat),(cs.map sign).foldl (fun acc p=>acc++("" : Str).cps++p.cps) acc=acc++cs.toArray
 |[],acc=>by simp
 |c::cs,acc=>by
  rw[fX,List.foldl_cons,LW cs];have e:("" : Str).cps = #[]:=rfl;rw[e]
  apply K9.mp
  simp[sign]
theorem Xg (cs:List Nat):Txt.join ("" : Str) (cs.map sign)=⟨cs.toArray⟩:=by
 unfold Txt.join Builtin.Str.glued;cases cs with
 |nil=>rfl
 |cons c cs =>
  rw[fX];show(⟨(cs.map sign).foldl _ (sign c).cps⟩:Str)=_;rw[LW]
  apply eU Str.mk
  apply K9.mp
  simp[sign]
theorem Xh {z:Str}{c:Nat} (h:c∈(Txt.slice z none (some 6)).cps.toList):c∈z.cps.toList:=by
 unfold Txt.slice at h;split at h
 ·exact h
 ·simp only[y9]at h
  obtain⟨i,_,e⟩:=h;obtain⟨_,e2⟩:=K'.mp e;rw[<-e2];simp
theorem LX (z:Str):(Txt.slice z none (some 6)).length<=6:=by
 have hi:(Builtin.Str.strSliceIndices none (some 6) 1 z.length).length<=6:=by
  unfold Builtin.Str.strSliceIndices sliceRange;simp only[show(1:Int) > 0 by decide,kA,aJ,Vt]
  split <;> (try split) <;> omega
 unfold Txt.slice;split
 ·rename_i h
  have e:(Builtin.Str.strSliceIndices none (some 6) 1 z.length).length=z.length:=by simpa using h
  omega
 ·show(List.filterMap _ _).toArray.size<=6
  rw[b8];exact fw (List.length_filterMap_le _ _) hi
theorem wc (a b:Str):(a++b).cps=a.cps++b.cps:=rfl
theorem ZX {z:Str}{c:Nat} (hz:∀c∈z.cps.toList,97<=c/\c<=122) (hc:97<=c/\c<=122):Nm (Txt.slice z none (some 6)++sign c++("q" : Str)):=by
 have hq:("q" : Str).cps = #[113]:=by decide +kernel
 have hl:=LX z;have e:(Txt.slice z none (some 6)++sign c++("q" : Str)).length=(Txt.slice z none (some 6)).length+2:=by
  show(_:Array Nat).size=_;rw[wc,wc,hq];show(_ ++ #[c] ++ #[113]).size=_;rw[Dg,Dg];rfl
 refine⟨by omega,by omega,fun d hd=>?_⟩
 rw[wc,wc,hq]at hd;have kI:d∈(Txt.slice z none (some 6)).cps.toList\/d=c\/d=113:=by
  have:d∈((Txt.slice z none (some 6)).cps ++ #[c] ++ #[113]).toList:=hd;simp at this;rcases this with h|h|h
  ·exact .inl (by simpa using h)
  ·exact .inr (.inl h)
  ·exact .inr (.inr h)
 rcases kI with h|h|h
 ·exact hz d (Xh h)
 ·rw[h];exact hc
 ·rw[h];omega
theorem YO {p:Str}{c d:Nat} (h:p++sign c++("q" : Str)=p++sign d++("q" : Str)):c=d:=by
 have h1:=eU (fun s:Str=>s.cps.toList) h;simp only[wc]at h1;have h2:p.cps.toList++([c]++("q" : Str).cps.toList)=p.cps.toList++([d]++("q" : Str).cps.toList):=by
  simpa [sign,Array.toList_append] using h1
 have h3:=List.append_cancel_left h2
 simpa using h3
theorem EX:∀ {ys found:List Str},ys.Nodup->found.length < ys.length -> ∃y∈ys,y ∉ found
 |[],found,_,h=>by simp at h
 |y::ys,found,nd,h=>by
  obtain⟨n1,n2⟩:=g8.mp nd
  by_cases hy:y∈found
  ·have hl:=Vu hy
   have hp:=Vv hy;obtain⟨z,hz,hn⟩:=EX (found:=found.erase y) n2 (by rw[hl];rw[d7]at h;omega)
   refine⟨z,bq _ hz,fun q=>hn ?_⟩;have ne:z≠y:=fun e=>n1 (by rw[<-e];exact hz)
   exact(Vw ne).mpr q
  ·exact⟨y,aW,hy⟩
theorem ZY (K:Frag) (h:X.K=K):cI X (compareOp .In) (BS K false):=by subst h;exact tH
theorem Xi (K:Frag) (h:X.K=K):cI X (compareOp .NotIn) (BS K true):=by subst h;exact Wr
theorem zD (K:Frag) (h:X.K=K):uM X (PQ K):=by subst h;exact fJ
theorem zJ (K:Frag) (h:X.K=K):uM X (AN K):=by subst h;exact cx
theorem Mr {l:Expr} (K:Frag) (h:X.K=K) (hl:PE X l tl):PI X tg l (OS K tl):=by subst h;exact gB hl
theorem Na {l:Expr} (K:Frag) (h:X.K=K) (hl:PE X l tl):PI X tg l (PB K tl):=by subst h;exact t4 hl
theorem Xj (K:Frag) (h:X.K=K):eu X (.builtin "len") (fun xs H Q=>∃p ys,xs = [.ref p]/\(ak K H p ys\/aE K H p ys)/\Q (.int ys.length) H):=by subst h;exact tq
theorem qR (x:Str) (ys:List Str):uN (.str x) (ys.map V.str)=decide (x∈ys):=by
 unfold uN;rw[La]
 induction ys with
 |nil=>simp
 |cons y ys ih =>
  rw[sP,ih];show((y==x) || decide (x∈ys))=decide (x∈y::ys)
  by_cases h:y=x
  ·subst h;simp
  ·have h':(y==x)=false:=ng.mpr h
   rw[h',Vx];have:x∈y::ys ↔ x∈ys:=by simp[aN h]
   simp[this]
theorem qP (ys:List Str):(ys.map V.str).all mq=true:=by
 rw[zj];intro v hv;obtain⟨y,_,rfl⟩:=br.mp hv
 rfl
def lz (H:Hp) (a:Addr):Hp:=fun b=>if b=a then none else H b
theorem tO (n:b≠a):lz H a b=H b:=by unfold lz;rw[aj n]
theorem Xk {o:HO} (e:lz H a b=some o):b≠a/\H b=some o:=by
 unfold lz at e;split at e
 ·cases e
 next n=>exact⟨n,e⟩
theorem Xl (e:H b=none):lz H a b=none:=by
 unfold lz;split
 ·rfl
 ·exact e
theorem Inv.ZZ (I:Inv X pins σ H s) (e:H a=some (cY C dx a)) (hd:∀d,dx=some d -> ∃fs,H d=some (iD d fs)):∃ox od t,InstAt s.heap a ox C od/\ox={ cls:= .ref C,dict:=dx,data:= .fields #[.ref t,.none,.none,.none,.bool false,.none] }:=by
 obtain⟨t,at_⟩:=I.excAt e;cases dx with
 |none=>exact⟨_,none,t,⟨at_,rfl,rfl,True.intro⟩,rfl⟩
 |some d =>
  obtain⟨fs,ed⟩:=hd d rfl;obtain⟨_,mA,n,r,_⟩:=I.Ey ed;obtain⟨od,j7,_⟩:=zy n;exact⟨_,some od,t,⟨at_,rfl,rfl,j7⟩,rfl⟩
theorem Inv.hidden (I:Inv X pins σ H s) (hx:X.ex = []) (hs:X.stack=X.env::X.outer) (hf:X.env.frame=some X.env.locals) (ha:H a=some (cY C dx a)) (h0:X.my a=none)
  (k:(hideAll s.heap (a::f9 X.stack)).StaysIn h') (up:s.heap.UpToSlots h'):Un X.fs [] X.my (lz H a) X.eG.heap h'/\cR X.prog X.w (lz H a) h':=by
 have ub:Un X.fs [] X.my H X.eG.heap s.heap:=by have:=I.base;rw[hx]at this;exact this
 have Qb:∀b,b∈f9 X.stack->b=X.env.locals\/b∈X.fs:=fun b hb=>by
  have:=I.Ab b hb;rcases bj.mp this with z|z
  ·exact .inl z
  ·exact .inr z
 have nA:∀ {b:Addr},H b=none->b≠a:=fun e z=>by subst z;rw[ha]at e;cases e
 have get:∀b o,s.heap.get? b=some o->b≠a->b ∉ f9 X.stack->h'.get? b=some o:=fun b o e n m=>k b o (hideAll_get _ e fun z=>by
  rcases bj.mp z with z|z
  ·exact n z
  ·exact m z)
 have Qc:∀b o,X.eG.heap.get? b=some o->b≠X.env.locals:=fun b o e z=>by
  have h1:=a9 e;have h2:=I.ok.above;subst z;exact absurd h1 (Vy.mpr h2)
 have OZ:∀b o,b∈X.fs->s.heap.get? b=some o -> ∃sl,h'.get? b=some { o with slots:=sl }:=fun b o m e=>by
  obtain⟨_,o',e',nf⟩:=(I.iB).mem m;rw[e]at e';cases e'
  exact up b o e nf
 refine⟨⟨fun b o e n m _=>?_,fun b o e n m _=>?_,fun b o e n _=>Xl (ub.free b o e n (by simp)),fun b o e _=>?_,fun b xs e=>?_,fun b o u e=>?_,fun b ps e=>?_⟩,fun b o e=>?_⟩
 ·have e1:=ub.keep b o e n m (by simp)
  refine get b o e1 (nA (ub.free b o e n (by simp))) fun z=>?_
  rcases Qb b z with z|z
  ·exact Qc b o e z
  ·exact m z
 ·obtain⟨sl,e1⟩:=ub.slot b o e n m (by simp)
  obtain⟨Iv,e2⟩:=OZ b _ m e1;exact⟨Iv,e2⟩
 ·obtain⟨o',e1⟩:=ub.there b o e (by simp)
  by_cases m:b∈X.fs
  ·obtain⟨sl,e2⟩:=OZ b _ m e1
   exact⟨_,e2⟩
  ·refine⟨o',get b o' e1 (fun z=>?_) fun z=>?_⟩
   ·subst z
    have:=ub.free b o e h0 (by simp)
    rw[ha]at this;cases this
   ·rcases Qb b z with z|z
    ·exact Qc b o e z
    ·exact m z
 ·have e1:=ub.jt b xs e
  rw[tO (ao e1 ha (by intro z;cases z))];exact e1
 ·have e1:=ub.ju b o u e
  rw[tO (ao e1 ha (by intro z;cases z))];exact e1
 ·obtain⟨mo,e1⟩:=ub.jU b ps e
  exact⟨mo,by rw[tO (ao e1 ha (by intro z;cases z))];exact e1⟩
 ·obtain⟨n,e1⟩:=Xk e
  have AL:∀ {c:Addr}{u:HO},H c=some u->c ∉ f9 X.stack:=fun q m=>by
   have:=I.Er _ m;rw[q]at this;cases this
  refine(I.au b o e1).hW (fun c u hc q=>?_) (fun c q=>?_) fun c xs q=>?_
  ·rcases hc with rfl|q1
   ·exact get _ u q n (AL e1)
   ·exact get c u q (ao q1 ha (by intro z;cases z)) (AL q1)
  ·rw[tO (ao q ha (by intro z;cases z))];exact q
  ·rw[tO (ao q ha (by intro z;cases z))];exact q
def Cx.rb (X:Cx) (a:Addr):Cx:={ X with A:=X.A.mark (some (.ref a)),calm:=false,xe:=fun _ _=>False }
theorem Inv.rb (I:Inv X pins σ H s) (a:Addr):Inv (X.rb a) pins σ H s:=
 ⟨⟨I.ok.mod,I.ok.kind,I.ok.glob,I.ok.blt,I.ok.above,I.ok.inj,I.ok.has,I.ok.pU,(fun z=>Bool.noConfusion (show false=true from z)),I.ok.frames,I.ok.rV,I.ok.om,I.ok.bs,I.ok.lH,I.ok.pK,I.ok.nX,I.ok.iB,I.ok.mI⟩,I.os,I.bare,I.base,I.loc,I.cell,I.free,I.gN,I.pin,I.au,I.len⟩
theorem Inv.uncaught {Y:Cx} (ok:X.Ok) (I:Inv (X.rb a) pins σ H s):Inv X pins σ H s:=
 ⟨ok,I.os,I.bare,I.base,I.loc,I.cell,I.free,I.gN,I.pin,I.au,I.len⟩
section
variable{R:Result->Shared->Prop}
theorem YQ {its:Array Value} (tr:Nat->Bool) (hh:A.in1.handled=none) (bY:l≠it) (hl:g.IsList l its)
  (ht:∀i v,its[i]? = some v -> ∃a ws,v = .ref a/\a≠it/\IsTup g a ws/\ws.size<=sizeLine/\tr i = !ws.isEmpty):∀ (k i:Nat) (s:Shared),its.size - i=k->i<=its.size->(∀b o,b≠it->g.get? b=some o->s.heap.get? b=some o)->s.heap.IsListIter it l i ->
  (∀h' tk,(∀b o,b≠it->g.get? b=some o->h'.get? b=some o)->R (.ok (.ret (.bool (((List.range its.size).drop i).any tr)))) { s with heap:=h',toks:=tk }) ->
  codeAny (model P w) A (.builtin "any.loop" ⟨[.ref it],[]⟩) R s:=by
 intro k
 induction k with
 |zero =>
  intro i s hk hi kp hit hR;obtain rfl:i=its.size:=by omega
  refine mf F.entry_any_loop (?_:wpAny _ _ _ _ _ _);rw[show A.under (.builtin "any.loop" ⟨[.ref it],[]⟩)=A.in1 from nF Lb _];show wpAny _ _ (pyNext (.ref it) >>= _) _ _ s;have IV:s.heap.IsList l its:=hl.at fun o e=>kp l o bY e;refine aa (Vc hh hit IV (by simp) fun h' ex=>aa (oU (ai ?_)))
  have:=hR h' s.toks fun b o n e=>ex b o n (kp b o n e);rw[anH (by simp)]at this
  exact this
 |succ k ih =>
  intro i s hk hi kp hit hR;have aV:i < its.size:=by omega
  have hd:(List.range its.size).drop i=i::(List.range its.size).drop (i+1):=by rw[vp (by simpa using aV),List.getElem_range]
  refine mf F.entry_any_loop (?_:wpAny _ _ _ _ _ _);rw[show A.under (.builtin "any.loop" ⟨[.ref it],[]⟩)=A.in1 from nF Lb _];show wpAny _ _ (pyNext (.ref it) >>= _) _ _ s;have IV:s.heap.IsList l its:=hl.at fun o e=>kp l o bY e;have hx:its[i]? = some its[i]:=by simp[aV]
  obtain⟨a,ws,ea,na,adE,hz,htr⟩:=ht i _ hx;refine aa (Vb hit IV hx fun h' adF sb=>?_);have uT:∀b o,b≠it->g.get? b=some o->h'.get? b=some o:=fun b o n e=>sb.extBut b o n (kp b o n e);have abY:IsTup h' a ws:=by
   obtain⟨o,ho,r⟩:=adE;exact⟨o,uT a o na ho,r⟩
  rw[ea];refine aa (eI (truthy_tuple (s:={ s with heap:=h' }) abY (by rw[aT]at hz;omega) (aa (wpAny_letGo ?_))))
  rw[<-htr];cases hb:tr i with
  |false =>
   refine ai ⟨o3 Lb _,ih (i+1) _ (by omega) aV uT adF fun h2 tk2 k2=>?_⟩
   have:=hR h2 tk2 k2;rw[hd,sP,hb,Vx]at this;exact this
  |true =>
   refine aa (oU (ai ?_));have:=hR h' (s.toks+1+1) uT;rw[hd,sP,hb,Bool.true_or]at this;exact this
end
theorem XZ (hc:X.calm=true):eu X (.builtin "any") (fun xs H Q=>∃ (p:Addr) (ys:List V) (rs:List (List V)),xs = [.ref p]/\ak X.K H p ys/\Paired (fun y r=>∃a,y=V.ref a/\aE X.K H a r) ys rs/\Q (.bl (rs.any fun r=>!r.isEmpty)) H):=by
 intro pins s σ H xs us Q I r h;obtain⟨p,ys,rs,rfl,hq,pr,q⟩:=h;obtain⟨u,rfl,rx⟩:=vals1 r;cases rx
 obtain⟨its,rv,pl,hz⟩:=I.list hq;have hlen:=rv.length;have all:∀i v,its[i]? = some v -> ∃a ws,v = .ref a/\IsTup s.heap a ws/\ws.size<=sizeLine/\(rs.map fun r=>!r.isEmpty).getD i false = !ws.isEmpty:=by
  intro i v e;clear q hq pl hz r
  induction rv generalizing rs i with
  |nil=>simp at e
  |cons r1 rt ih =>
   cases pr with
   |cons p1 pt =>
    cases i with
    |zero =>
     simp at e;subst e;obtain⟨a,rfl,ha⟩:=p1;cases r1
     obtain⟨ws,r2,ht,RW⟩:=I.tuple ha;have kJ:=r2.length;exact⟨a,_,rfl,ht,by rw[b8];omega,by rw[DF r2];rfl⟩
    |succ i=>exact ih _ pt (by simpa using hlen) i (by simpa using e)
 have hsz:its.toArray.size=rs.length:=by rw[b8,<-hlen];exact gZ pr
 have fin:(List.range its.toArray.size).any (fun i=>(rs.map fun r=>!r.isEmpty).getD i false)=rs.any fun r=>!r.isEmpty:=by
  rw[hsz]
  apply vm.mpr
  simp only[zk,oT]
  constructor
  ·rintro⟨i,hi,e⟩
   refine⟨rs[i],kY hi,?_⟩
   simpa [List.getD,hi] using e
  ·rintro⟨r,hr,e⟩
   obtain⟨i,hi,rfl⟩:=Lc hr;exact⟨i,hi,by simpa [List.getD,hi] using e⟩
 refine call_function_tree F.kind_any F.plain_any F.entry_any (F.args_any1 (.ref p)) (?_:wpAny _ _ _ _ _ _);unfold Builtin.«any»;refine aa (m:=oneArg "any" _) (ai (aa (zd pl.isList ?_)));have new:∀b o,s.heap.get? b=some o->b≠s.heap.objs.size:=fun b o e=>bx (a9 e);obtain⟨ol,qa,_⟩:=id pl.isList;refine ai ⟨o3 Lb _,YQ (g:=s.heap) (fun i=>(rs.map fun r=>!r.isEmpty).getD i false) (I.ok.hd hc) (new p ol qa) pl.isList (fun i v e=>?_) _ 0 _ rfl (bf _) (fun b o n e=>a8 _ e) ⟨_,cp _ rfl,rfl,rfl⟩ fun h' tk kp=>?_⟩
 ·obtain⟨a,ws,ea,ht,RW,e2⟩:=all i v (by simpa using e)
  obtain⟨o,ho,_⟩:=id ht;exact⟨a,ws,ea,new a o ho,ht,RW,e2⟩
 ·rw[Ld,fin]
  exact⟨.bl _,H,I.kept (t':=tk) fun b o e=>kp b o (new b o e) e,rfl,q⟩
theorem Ms (hc:X.calm=true):eu X (.builtin "all") (fun xs H Q=>∃ (p:Addr) (bs:List Bool),xs = [.ref p]/\ak X.K H p (bs.map V.bl)/\Q (.bl (bs.all id)) H):=by
 intro pins s σ H xs us Q I r h;obtain⟨p,bs,rfl,hq,q⟩:=h;obtain⟨u,rfl,rx⟩:=vals1 r;cases rx
 obtain⟨its,rv,pl,hz⟩:=I.list hq;have hlen:=rv.length;have vals:its=bs.map Value.bool:=by
  clear q hq pl hz r hlen
  induction bs generalizing its with
  |nil=>cases rv;rfl
  |cons b bs ih =>
   cases rv with
   |cons r1 rt=>cases r1;rw[ih _ rt];rfl
 have new:∀b o,s.heap.get? b=some o->b≠s.heap.objs.size:=fun b o e=>bx (a9 e);obtain⟨ol,qa,_⟩:=id pl.isList;refine call_all_walk (zd pl.isList ?_);refine⟨s.heap.objs.size,_,_,_,_,_,fun i=>bs.getD i true,rfl,Walks.list (A:=X.A.in1) (I.ok.hd hc) s.heap.objs.size p (new p ol qa) its.toArray,⟨⟨_,cp _ rfl,rfl,rfl⟩,pl.isList.at fun o e=>a8 _ e⟩,fun i v s2 Q2 E2 hv oF=>?_,fun h' tk kp=>?_⟩
 ·rw[vals]at hv
  have:bs[i]?.map Value.bool=some v:=by simpa using hv
  obtain⟨b,hb,rfl⟩:=kB.mp this;refine nB ?_;have e:bs.getD i true=b:=by rw[jO,hb];rfl
  exact e ▸ oF
 ·have fin:(List.range its.toArray.size).all (fun i=>bs.getD i true)=bs.all id:=by
   have hs:its.toArray.size=bs.length:=by rw[vals];simp
   rw[hs]
   apply vm.mpr
   simp only[zj,oT]
   constructor
   ·intro h b hb
    obtain⟨i,hi,rfl⟩:=Lc hb
    simpa [List.getD,hi] using h i hi
   ·intro h i hi
    simpa [List.getD,hi] using h bs[i] (kY hi)
  rw[fin];exact⟨.bl _,H,I.kept (t':=tk) fun b o e=>kp b o (by simpa using new b o e) (a8 _ e),rfl,q⟩
def Z0:V->List V->Hp->VK->Prop:=fun x vs H Q=>∃ (l:Addr) (ys:List Str) (y:Str) (j:Nat),x = .ref l/\vs = [.str y]/\H l=some (.lst (ys.map V.str))/\ys[j]? = some y/\(∀m,m < j->ys[m]? ≠ some y)/\Q (.int j) H
theorem Nb:uO X "list.index" Z0:=by
 intro pins s σ H x vs v us Q I rx rv h;obtain⟨l,ys,y,j,rfl,rfl,hH,hj,gq,q⟩:=h;cases rx
 obtain⟨u,rfl,t,rfl⟩:=rv.one;obtain⟨z,its,n,r,hl,e⟩:=I.rG hH;have b6:j < its.length:=by
  have:=(cu.mp hj).1;rw[<-hl,aJ];exact this
 have at_:∀m (hm:m < its.length),∃ (w:Str) (t':Tok),ys[m]? = some w/\its[m] = .str w t':=fun m hm=>by
  have mQ:m < ys.length:=by rw[<-hl,aJ]at hm;exact hm
  obtain⟨u,hu,t',ht⟩:=r.get (i:=m) (x:= .str ys[m]) (by rw[jk,b4 mQ];rfl)
  rw[b4 hm]at hu;exact⟨ys[m],t',b4 mQ,by rw[gA hu];exact ht⟩
 have fl:(ys.map V.str).all mq=true:=qP ys;refine sQ F.slot_list_index ⟨_,e,rfl⟩ F.entry_list_index (F.args_list_index_2 _ _) (SeqAt.list_indexAt l its.toArray n none #[] (.str y t) (gU (.str y)) j (by simpa using b6) ?_ ?_ ?_) ⟨e,?_,?_⟩
 ·rw[aT]at z;have:=hl;omega
 ·obtain⟨w,t',hw,ew⟩:=at_ j b6
  rw[hj]at hw;cases hw;show gU (.str y) (its.toArray[j])=true;rw[anI,ew,Ad (y:= .str y) ⟨t',rfl⟩ rfl];show decide _=true;exact fY rfl
 ·intro m hm hmj
  have mQ:m < its.length:=by simpa using hm
  obtain⟨w,t',hw,ew⟩:=at_ m mQ;show gU (.str y) (its.toArray[m])=false;rw[anI,ew,Ad (y:= .str w) ⟨t',rfl⟩ rfl];have ne:=gq m hmj;rw[hw]at ne;show decide _=false;exact ji fun z=>ne (by rw[z])
 ·intro u hu
  exact tN (x:= .str y) ⟨t,rfl⟩ rfl r fl u (by simpa using hu)
 ·exact⟨.int j,H,I.tok _,⟨_,rfl⟩,q⟩
end L2
namespace L2
open PySem PySem.Spec PyProof.Rows
section
variable{κ:Type} [DecidableEq κ]
def bo (kvs:List (κ×V)) (k:κ):Option V:=(kvs.find? fun kv=>decide (kv.1=k)).map (·.2)
def putK (kvs:List (κ×V)) (k:κ) (v:V):List (κ×V):=
 if (kvs.any fun kv=>decide (kv.1=k))=true then kvs.map (fun kv=>if kv.1=k then (kv.1,v) else kv) else kvs ++ [(k,v)]
theorem jo {p:κ×V}{r:List (κ×V)}{k:κ} (e:p.1=k):bo (p::r) k=some p.2:=by simp[bo,zl,e]
theorem hU {p:κ×V}{r:List (κ×V)}{k:κ} (e : ¬ p.1=k):bo (p::r) k=bo r k:=by simp[bo,zl,e]
theorem tP (k:κ):∀kvs:List (κ×V),(kvs.any fun kv=>decide (kv.1=k))=(bo kvs k).isSome
 |[]=>rfl
 |p::r=>by
  rw[sP]
  by_cases e:p.1=k
  ·simp only[jo e,fY e,Bool.true_or,Option.isSome_some]
  ·rw[hU e,ji e,Vx];exact tP k r
theorem Nc (k j:κ) (y:V):∀kvs:List (κ×V),bo (kvs.map fun kv=>if kv.1=k then (kv.1,y) else kv) j=(bo kvs j).map fun x=>if j=k then y else x
 |[]=>rfl
 |p::r=>by
  have ih:=Nc k j y r;rw[fX]
  by_cases h:p.1=k
  ·rw[ax h]
   by_cases e:p.1=j
   ·rw[jo (p:=(p.1,y)) e,jo e,C6,ax (e.symm.trans h)]
   ·rw[hU (p:=(p.1,y)) e,hU e,ih]
  ·rw[aj h]
   by_cases e:p.1=j
   ·rw[jo (p:=p) e,jo e,C6,aj (fun z=>h (e.trans z))]
   ·rw[hU (p:=p) e,hU e,ih]
theorem Mt (k j:κ) (y:V):∀kvs:List (κ×V),bo kvs k=none->bo (kvs ++ [(k,y)]) j=if j=k then some y else bo kvs j
 |[],_=>by
  by_cases e:k=j
  ·rw[ax e.symm];exact jo (p:=(k,y)) e
  ·rw[aj (fun z=>e z.symm)];exact hU (p:=(k,y)) e
 |p::r,hn=>by
  rw[List.cons_append];have hk : ¬ p.1=k:=fun z=>by rw[jo z]at hn;cases hn
  rw[hU hk]at hn;have ih:=Mt k j y r hn
  by_cases e:p.1=j
  ·rw[jo e,jo e,aj (fun z=>hk (e.trans z))]
  ·rw[hU e,hU e,ih]
theorem qS (kvs:List (κ×V)) (k j:κ) (y:V):bo (putK kvs k y) j=if j=k then some y else bo kvs j:=by
 unfold putK
 by_cases a:(kvs.any fun kv=>decide (kv.1=k))=true
 ·rw[ax a,Nc]
  rw[tP]at a
  by_cases e:j=k
  ·obtain⟨x,hx⟩:=Vh.mp a
   rw[ax e,e,hx,C6,ax rfl]
  ·rw[aj e]
   cases bo kvs j with
   |none=>rfl
   |some x=>rw[C6,aj e]
 ·rw[aj a]
  refine Mt k j y kvs ?_;rw[tP]at a;cases q:bo kvs k with
  |none=>rfl
  |some x=>rw[q]at a;exact(a rfl).elim
theorem tD (kvs:List (κ×V)) (k:κ) (v:V):(putK kvs k v).length<=kvs.length+1:=by
 unfold putK;split
 ·rw[aJ];omega
 ·rw[dz,d7,sS];omega
theorem qT {kvs:List (κ×V)}{k:κ} (v:V) (h:bo kvs k=none):putK kvs k v=kvs ++ [(k,v)]:=by
 unfold putK;rw[tP,h];exact aj (by decide)
theorem gj.vG {o:Option V}{u:Option Value} (r:gj o u):o.isSome=u.isSome:=by
 cases o with
 |none=>cases u with
  |none=>rfl
  |some _=>exact(show False from r).elim
 |some _=>cases u with
  |none=>exact(show False from r).elim
  |some _=>rfl
theorem KV.val {kvs:List (κ×V)}{vs:List (κ×Value)} (r:KV kvs vs) (k:κ):gj (bo kvs k) (valueAt vs k):=by
 unfold KV at r
 induction r with
 |nil=>exact True.intro
 |@cons p q ps qs h t ih =>
  obtain⟨h1,h2⟩:=h
  by_cases e:p.1=k
  ·have e':q.1=k:=h1.symm.trans e
   have b:valueAt (q::qs) k=some q.2:=by simp[valueAt,zl,e']
   rw[jo e,b];exact h2
  ·have e' : ¬ q.1=k:=fun z=>e (h1.trans z)
   have b:valueAt (q::qs) k=valueAt qs k:=by simp[valueAt,zl,e']
   rw[hU e,b];exact ih
theorem KV.any {kvs:List (κ×V)}{vs:List (κ×Value)} (r:KV kvs vs) (k:κ):(kvs.any fun kv=>decide (kv.1=k))=vs.any fun kv=>decide (kv.1=k):=by
 unfold KV at r
 induction r with
 |nil=>rfl
 |cons h t ih=>rw[sP,sP,ih,h.1]
theorem KV.F0 {kvs:List (κ×V)}{vs:List (κ×Value)} (r:KV kvs vs) (k:κ) (ry:RelV y u) :
  KV (kvs.map fun kv=>if kv.1=k then (kv.1,y) else kv) (vs.map fun kv=>if kv.1=k then (kv.1,u) else kv):=by
 unfold KV at r ⊢
 induction r with
 |nil=>exact .nil
 |@cons p q ps qs h t ih =>
  rw[fX,fX];refine .cons ?_ ih;obtain⟨h1,h2⟩:=h
  by_cases e:p.1=k
  ·rw[ax e,ax (h1.symm.trans e)];exact⟨h1,ry⟩
  ·rw[aj e,aj (fun z=>e (h1.trans z))];exact⟨h1,h2⟩
theorem KV.put {kvs:List (κ×V)}{vs:List (κ×Value)} (r:KV kvs vs) (k:κ) (ry:RelV y u):KV (putK kvs k y) (stored vs k u):=by
 unfold putK stored;rw[r.any k]
 by_cases e:(vs.any fun kv=>decide (kv.1=k))=true
 ·rw[ax e,ax e];exact r.F0 k ry
 ·rw[aj e,aj e];exact qJ r ⟨rfl,ry⟩
theorem KV.length {kvs:List (κ×V)}{vs:List (κ×Value)} (r:KV kvs vs):kvs.length=vs.length:=gZ r
end
theorem uj {k:Key} (r:RelV (kV k) u):(dJ P w).is k u=true:=by
 cases k with
 |inl i=>obtain⟨t,e⟩:=(show ∃t,u=Value.int i t from r);subst e;exact WE P w i t
 |inr x=>obtain⟨t,e⟩:=(show ∃t,u=Value.str x t from r);subst e;exact WG P w x t
theorem Mu {P:Program}{w:World}:∀ {ks:List Key}{us:List Value},Vals (ks.map kV) us->ItemsAre (dJ P w) ks us
 |[],_,r=>by rw[List.map_nil]at r;cases r;exact .nil
 |k::ks,_,r=>by
  rw[fX]at r;cases r with
  |cons h t=>exact .cons (uj h) (Mu t)
abbrev KT (H:Hp):List (List Key×V)->List (List Key×Addr×Value)->Prop:=Paired fun p q=>p.1=q.1/\H q.2.1=some (.tup (p.1.map kV))/\RelV p.2 q.2.2
theorem KT.val {xs:List (List Key×Addr×Value)} (r:KT H kvs xs) (k:List Key):gj (bo kvs k) ((atKey xs k).map (·.2)):=by
 induction r with
 |nil=>exact True.intro
 |@cons p q ps qs h t ih =>
  obtain⟨h1,_,h2⟩:=h
  by_cases e:p.1=k
  ·have e':q.1=k:=h1.symm.trans e
   have b:atKey (q::qs) k=some q.2:=by simp[atKey,zl,e']
   rw[jo e,b];exact h2
  ·have e' : ¬ q.1=k:=fun z=>e (h1.trans z)
   have b:atKey (q::qs) k=atKey qs k:=by simp[atKey,zl,e']
   rw[hU e,b];exact ih
theorem KT.F0 {xs:List (List Key×Addr×Value)} (r:KT H kvs xs) (k:List Key) (ry:RelV y u) :
  KT H (kvs.map fun kv=>if kv.1=k then (kv.1,y) else kv) (xs.map (putAt k u)):=by
 induction r with
 |nil=>exact .nil
 |@cons p q ps qs h t ih =>
  rw[fX,fX];refine .cons ?_ ih;obtain⟨h1,h2,h3⟩:=h;unfold putAt
  by_cases e:p.1=k
  ·rw[ax e,ax (h1.symm.trans e)];exact⟨h1,h2,ry⟩
  ·rw[aj e,aj (fun z=>e (h1.trans z))];exact⟨h1,h2,h3⟩
theorem KT.put {xs:List (List Key×Addr×Value)} (r:KT H kvs xs) (k:List Key) (hb:H b=some (.tup (k.map kV))) (ry:RelV y u) :
  KT H (putK kvs k y) (storedH xs k b u):=by
 have e:(kvs.any fun kv=>decide (kv.1=k))=(atKey xs k).isSome:=by
  rw[tP,(r.val k).vG,Le]
 unfold putK storedH;rw[e]
 by_cases q:(atKey xs k).isSome=true
 ·rw[ax q,ax q];exact r.F0 k ry
 ·rw[aj q,aj q];exact qJ r ⟨rfl,hb,ry⟩
theorem KT.keeps {xs:List (List Key×Addr×Value)} (r:KT H kvs xs) (ht:∀b ys,H b=some (.tup ys)->H' b=some (.tup ys)):KT H' kvs xs:=
 Paired.AK r fun _ _ z=>⟨z.1,ht _ _ z.2.1,z.2.2⟩
theorem O0 {u:HO} (ok:cR P w H h) (e:Rd H a u):bu P w H h a u:=e.ok ok
theorem wA {kvs:List (Key×V)} (ok:cR P w H h) (e:Rd H a (.dK kvs)):kvs.length<=sizeLine/\(a==sysModules)=false /\ ∃vs,KV kvs vs/\h.DictOf (dJ P w) a vs:=
 show bu P w H h a (.dK kvs) from O0 ok e
theorem O1 {kvs:List (Key×V)} (ok:cR P w H h) (e:H a=some (.dK kvs)):kvs.length<=sizeLine/\(a==sysModules)=false /\ ∃vs,KV kvs vs/\h.DictOf (dJ P w) a vs:=wA ok (.inl e)
theorem t6 {ks:List Key} (ok:cR P w H h) (e:H a=some (.tup (ks.map kV))):(tupleKind (dJ P w)).is h ks a:=by
 obtain⟨_,its,r,o,h1,h2,n,h3,_⟩:=(show bu P w H h a (.tup (ks.map kV)) from ok a _ e);exact⟨o,its.toArray,n,h1,h2,h3,by simpa using Mu r⟩
theorem wB (ok:cR P w H h) (e:Rd H a (.dT kvs)):kvs.length<=sizeLine/\(a==sysModules)=false /\
  ∃xs,KT H kvs xs/\h.DictOfH (tupleKind (dJ P w)) a xs:=by
 obtain⟨z,y,xs,r,o,es,ep,h1,h2,h3,h4,h5⟩:=(show bu P w H h a (.dT kvs) from O0 ok e);refine⟨z,y,xs,r,o,es,ep,h1,h2,h3,h4,fun x hx=>?_,h5⟩;have all:∀ {l:List (List Key×V)}{m:List (List Key×Addr×Value)},KT H l m -> ∀x∈m,(tupleKind (dJ P w)).is h x.1 x.2.1:=by
  intro l m q
  induction q with
  |nil=>intro x hx;exact nomatch hx
  |@cons p q ps qs hq t ih =>
   intro x hx;rcases bj.mp hx with e|hx
   ·subst e
    exact t6 ok (by rw[<-hq.1];exact hq.2.1)
   ·exact ih x hx
 exact all r x hx
theorem O2 (ok:cR P w H h) (e:H a=some (.dT kvs)):kvs.length<=sizeLine/\(a==sysModules)=false /\
  ∃xs,KT H kvs xs/\h.DictOfH (tupleKind (dJ P w)) a xs:=wB ok (.inl e)
def cU (H:Hp) (a:Addr) (y:V) (r:Option V):Prop:=
 (∃kvs k,Rd H a (.dK kvs)/\y=kV k/\r=bo kvs k) \/ ∃kvs k b,Rd H a (.dT kvs)/\y = .ref b/\H b=some (.tup (k.map kV))/\r=bo kvs k
def hZ (H:Hp) (a:Addr) (y v:V) (H':Hp):Prop:=
 (∃kvs k,H a=some (.dK kvs)/\y=kV k/\kvs.length < sizeLine/\H'=upd H a (.dK (putK kvs k v))) \/
 ∃kvs k b,H a=some (.dT kvs)/\y = .ref b/\H b=some (.tup (k.map kV))/\kvs.length < sizeLine/\H'=upd H a (.dT (putK kvs k v))
theorem cU.k {kvs:List (Key×V)}{k:Key} (e:H a=some (.dK kvs)):cU H a (kV k) (bo kvs k):= .inl ⟨kvs,k,.inl e,rfl,rfl⟩
theorem cU.t {k:List Key} (e:H a=some (.dT kvs)) (eb:H b=some (.tup (k.map kV))):cU H a (.ref b) (bo kvs k):= .inr ⟨kvs,k,b,.inl e,rfl,eb,rfl⟩
theorem hZ.k {kvs:List (Key×V)}{k:Key} (e:H a=some (.dK kvs)) (hl:kvs.length < sizeLine):hZ H a (kV k) v (upd H a (.dK (putK kvs k v))):= .inl ⟨kvs,k,e,rfl,hl,rfl⟩
theorem hZ.t {k:List Key} (e:H a=some (.dT kvs)) (eb:H b=some (.tup (k.map kV))) (hl:kvs.length < sizeLine) :
  hZ H a (.ref b) v (upd H a (.dT (putK kvs k v))):= .inr ⟨kvs,k,b,e,rfl,eb,hl,rfl⟩
section
variable{r:Value}{o:Option V}
theorem Inv.big (I:Inv X pins σ H s):sysModules < s.heap.objs.size:=by
 have h:mainGlobals < s.heap.objs.size:=(I.mod.glob.keeps I.bk).lt;exact vo (by decide) h
theorem X0 (hu:A.units+1 < cLine) (I:Inv X pins σ H s) (g:cU H a y (some v)) (ry:RelV y u) (h:∀w' s',Inv X pins σ H s'->RelV v w'->Q w' s') :
  wpAny (model X.prog X.w) A (getItem (.ref a) u) Q E s:=by
 rcases g with⟨kvs,k,e,ey,l⟩|⟨kvs,k,b,e,ey,eb,l⟩
 ·subst ey
  obtain⟨z,hd,vs,rel,dd⟩:=wA I.au e;obtain⟨w',hw,iJ⟩:=gj.some_of (v:=v) (o:=valueAt vs k) (by rw[l];exact rel.val k)
  exact wpAny_getItem_of (uj ry) dd.mapOf hw (h w' _ (I.tok _) iJ)
 ·subst ey
  cases (show u=Value.ref b from ry)
  obtain⟨z,hd,xs,rel,dd⟩:=wB I.au e;obtain⟨w',hw,iJ⟩:=gj.some_of (v:=v) (o:=(atKey xs k).map (·.2)) (by rw[l];exact rel.val k)
  obtain⟨p,hp,jA⟩:=kB.mp hw;refine wpAny_getItem_heap (Lf hu) (t6 I.au eb) dd hp ?_;rw[jA];exact h w' _ (I.tok _) iJ
theorem adG (hu:A.units+1 < cLine) (I:Inv X pins σ H s) (g:cU H a y o) (ry:RelV y u) (h:∀s',Inv X pins σ H s'->Q (.bool o.isSome) s') :
  wpAny (model X.prog X.w) A (compareOp .In u (.ref a)) Q E s:=by
 rcases g with⟨kvs,k,e,ey,l⟩|⟨kvs,k,b,e,ey,eb,l⟩
 ·subst ey
  obtain⟨z,hd,vs,rel,dd⟩:=wA I.au e;refine wpAny_in_of (uj ry) hd dd.mapOf ?_;rw[<-(rel.val k).vG,<-l];exact h _ (I.tok _)
 ·subst ey
  cases (show u=Value.ref b from ry)
  obtain⟨z,hd,xs,rel,dd⟩:=wB I.au e;refine wpAny_in_heap (Lf hu) (t6 I.au eb) hd dd ?_;have q:=(rel.val k).vG;rw[Le]at q;rw[<-q,<-l];exact h _ (I.tok _)
theorem Z1 (hu:A.units+1 < cLine) (I:Inv X pins σ H s) (g:cU H a y o) (ry:RelV y u) (h:∀s',Inv X pins σ H s'->Q (.bool (!o.isSome)) s') :
  wpAny (model X.prog X.w) A (compareOp .NotIn u (.ref a)) Q E s:=by
 rcases g with⟨kvs,k,e,ey,l⟩|⟨kvs,k,b,e,ey,eb,l⟩
 ·subst ey
  obtain⟨z,hd,vs,rel,dd⟩:=wA I.au e;refine wpAny_notIn_of (uj ry) hd dd.mapOf ?_;rw[<-(rel.val k).vG,<-l];exact h _ (I.tok _)
 ·subst ey
  cases (show u=Value.ref b from ry)
  obtain⟨z,hd,xs,rel,dd⟩:=wB I.au e;refine wpAny_notIn_heap (Lf hu) (t6 I.au eb) hd dd ?_;have q:=(rel.val k).vG;rw[Le]at q;rw[<-q,<-l];exact h _ (I.tok _)
theorem Ez {ob:HO} (I:Inv X pins σ H s) (mu:xB (H a)) (hs:Heap.SameBut a s.heap h') (he:∃q,h'.get? a=some q) (new:bu X.prog X.w (upd H a ob) h' a ob) :
  Inv X pins σ (upd H a ob) { s with heap:=h',toks:=t' }:=
 I.write (x:=a) (e:=a) mu (.inl rfl) (fun b q hb z=>(hs.2 b hb).trans z) he new
theorem OF {kvs:List (Key×V)}{vs:List (Key×Value)} (z:kvs.length<=sizeLine) (hd:(a==sysModules)=false) (rel:KV kvs vs) (dd:h'.DictOf (dJ P w) a vs) :
  bu P w H' h' a (.dK kvs):=⟨z,hd,vs,rel,dd⟩
theorem X1 {Q:Unit->Shared->Prop} (hu:A.units+1 < cLine) (I:Inv X pins σ H s) (g:hZ H a y v H') (ry:RelV y u) (rv:RelV v r) (h:∀s',Inv X pins σ H' s'->Q () s') :
  wpAny (model X.prog X.w) A (setItem (.ref a) u r) Q E s:=by
 rcases g with⟨kvs,k,e,ey,l,eH⟩|⟨kvs,k,b,e,ey,eb,l,eH⟩
 ·subst ey eH
  obtain⟨z,hd,vs,rel,dd⟩:=O1 I.au e;have hz:vs.length<=sizeLine:=by rw[<-rel.length];exact z
  have hl:(putK kvs k v).length<=sizeLine:=by have:=tD kvs k v;omega
  refine wpAny_setItem_pairs (hsz:=hz) (uj ry) dd fun h' j8 hs=>h _ ?_;have he:∃q,h'.get? a=some q:=let ⟨q,_,_,hq,_⟩:=j8;⟨q,hq⟩;exact Ez I (by rw[e];exact True.intro) hs he (OF hl hd (rel.put k rv) j8)
 ·subst ey eH
  cases (show u=Value.ref b from ry)
  obtain⟨z,hd,xs,rel,dd⟩:=O2 I.au e;have hz:xs.length<=sizeLine:=by rw[<-gZ rel];exact z
  have hl:(putK kvs k v).length<=sizeLine:=by have:=tD kvs k v;omega
  refine wpAny_setItem_heap (hsz:=hz) (Lf hu) (t6 I.au eb) dd fun h' j8 hs=>h _ ?_;obtain⟨q,es,ep,hq,h2,h3,h4,_,h5⟩:=j8;refine Ez I (by rw[e];exact True.intro) hs ⟨q,hq⟩ ⟨hl,hd,_,(rel.put k eb rv).keeps fun c ys ec=>?_,q,es,ep,hq,h2,h3,h4,h5⟩
  rw[ag (ao ec e (fun z=>nomatch z))];exact ec
end
def Qd (i:Expr):Prop:= ∀ov iv,subscripted i false ov iv=operate [ov,iv] (getItem ov iv)
theorem Z2 {slice:Expr}{id:String}
  (hl:typeLookup (.type T) "__getitem__" = pure (some (.builtin id))) (hs:Qd slice)
  (h:wpAny (model prog w) A (eval value env) (fun o bh=>wpAny (model prog w) A (eval slice env) (fun i lB=>lB.TypeIs o T/\wpAny (model prog w) A (getItem o i) Q E lB) E bh) E s) :
  wpAny (model prog w) A (eval (.Subscript value slice pos) env) Q E s:=by
 refine Subscript_ (lZ h (fun o bh jX=>lZ jX (fun i lB jY=>?_) fun _ _ x=>x) fun _ _ x=>x);obtain⟨hT,jY⟩:=jY;unfold subscriptTail;refine aa ?_;rw[getitemInPython_of_ne hT.not_modules];refine aa (Vz hT hl ?_);have fin:wpAny (model prog w) A (subscripted slice false o i) (fun r Qe=>wpAny (model prog w) A (letTemporaryGo value o r >>= fun _=>pure r) Q E Qe) E lB:=by
  rw[hs o i];exact wpAny_operating (lZ jY (fun r Qe wY=>aa (wpAny_letTemporaryGo (ai wY))) fun _ _ x=>x)
 first
  |exact ai (aa fin)
  |exact aa (ai (aa fin))
  |exact aa fin
theorem WM {o:Option V} (I:Inv X pins σ H s) (g:cU H a y o):s.TypeIs (.ref a) "dict" :=by
 rcases g with⟨kvs,k,e,_,_⟩|⟨kvs,k,b,e,_,_,_⟩
 ·obtain⟨_,_,vs,_,dd⟩:=wA I.au e
  exact dd.typeIs
 ·obtain⟨_,_,xs,_,dd⟩:=wB I.au e
  exact dd.typeIs
def Fg (td ty:TE):TE:=fun σ H Q=>td σ H fun x H1=>ty σ H1 fun y H2=>∃a v,x = .ref a/\cU H2 a y (some v)/\Q v H2
def Qf (ty td:TE):TE:=fun σ H Q=>ty σ H fun y H1=>td σ H1 fun x H2=>∃a o,x = .ref a/\cU H2 a y o/\Q (.bl o.isSome) H2
def Z3 (ty td:TE):TE:=fun σ H Q=>ty σ H fun y H1=>td σ H1 fun x H2=>∃a o,x = .ref a/\cU H2 a y o/\Q (.bl (!o.isSome)) H2
def abZ (td ty tv:TE):TS:=fun D σ H=>tv σ H fun v H1=>td σ H1 fun x H2=>ty σ H2 fun y H3=>∃a H4,x = .ref a/\hZ H3 a y v H4/\D.nx σ H4
section
variable{o i:Expr}{PL:Pos}{td ty:TE}
theorem jP (hu:X.A.units+1 < cLine) (ho:PE X o td) (hi:PE X i ty) (hs:Qd i):PE X (.Subscript o i pos) (Fg td ty):=by
 intro pins s σ H Q I h;refine Z2 PySem.F.slot_dict_getitem.lookup hs (aw (ho pins s σ H _ I h) fun u s1 ⟨x,H1,I1,rx,q1⟩=>aw (hi pins s1 σ H1 _ I1 q1) fun iv s2 ⟨y,H2,I2,ry,a,v,ex,g,q2⟩=>?_);subst ex;obtain rfl:u=Value.ref a:=rx;exact⟨WM I2 g,X0 hu I2 g ry fun w' s3 I3 iJ=>⟨v,H2,I3,iJ,q2⟩⟩
theorem pF (hu:X.A.units+1 < cLine) (hi:PE X i ty) (ho:PE X o td):PC X .In i o (Qf ty td):=by
 intro pins s σ H Q I h;refine aw (hi pins s σ H _ I h) fun iv s1 ⟨y,H1,I1,ry,q1⟩=>aw (ho pins s1 σ H1 _ I1 q1) fun u s2 ⟨x,H2,I2,rx,a,ov,ex,g,q2⟩=>?_;subst ex;obtain rfl:u=Value.ref a:=rx;exact adG hu I2 g ry fun s3 I3=>⟨.bl ov.isSome,H2,I3,rfl,q2⟩
theorem Mv (hu:X.A.units+1 < cLine) (hi:PE X i ty) (ho:PE X o td):PC X .NotIn i o (Z3 ty td):=by
 intro pins s σ H Q I h;refine aw (hi pins s σ H _ I h) fun iv s1 ⟨y,H1,I1,ry,q1⟩=>aw (ho pins s1 σ H1 _ I1 q1) fun u s2 ⟨x,H2,I2,rx,a,ov,ex,g,q2⟩=>?_;subst ex;obtain rfl:u=Value.ref a:=rx;exact Z1 hu I2 g ry fun s3 I3=>⟨.bl (!ov.isSome),H2,I3,rfl,q2⟩
theorem lq (hu:X.A.units+1 < cLine) (ho:PE X o td) (hi:PE X i ty) (hv:PE X value tv) (hs:swapsWith value (some (.Subscript o i pos')) pos.line X.env=pure false) :
  PS X (.Assign [.Subscript o i pos'] value pos) (abZ td ty tv):=by
 intro pins s σ H D I h;refine wpAny_Assign_Subscript (aw (hv pins s σ H _ I h) fun r s1 ⟨v,H1,I1,rv,q1⟩=>aw (ho pins s1 σ H1 _ I1 q1) fun u s2 ⟨x,H2,I2,rx,q2⟩=>aw (hi pins s2 σ H2 _ I2 q2) fun iv s3 ⟨y,H3,I3,ry,a,H4,ex,g,q3⟩=>?_) hs;subst ex;obtain rfl:u=Value.ref a:=rx;exact X1 hu I3 g ry rv fun s4 I4=>⟨σ,H4,I4,q3⟩
end
theorem YR (h:Heap) (hb:sysModules < h.objs.size):bu P w H (h.push { cls:= .type "dict",data:= .dict #[] }) h.objs.size (.dK []):=
 ⟨bf _,ng.mpr (aN (bx hb)),[],.nil,Heap.DictOf.new h⟩
theorem Nd (h:Heap) (hb:sysModules < h.objs.size):bu P w H (h.push { cls:= .type "dict",data:= .dict #[] }) h.objs.size (.dT []):=
 ⟨bf _,ng.mpr (aN (bx hb)),[],.nil,_,#[],0,cp _ rfl,⟨rfl,rfl,rfl⟩,rfl,rfl,jl⟩
def abb:TE:=fun _ H Q=>∀p,H p=none->Q (.ref p) (upd H p (.dK []))
def abc:TE:=fun _ H Q=>∀p,H p=none->Q (.ref p) (upd H p (.dT []))
theorem D7:PE X (.Dict [] [] pos) abb:=fun pins s σ H Q I h =>
 wpAny_Dict_empty ⟨.ref s.heap.objs.size,_,I.laid (a:=s.heap.objs.size) (o:= .dK []) (t':=s.toks) (fun _ _ q=>a8 _ q) (aP _) (YR s.heap I.big),rfl,h _ (I.au.fresh (aP _))⟩
theorem D8:PE X (.Dict [] [] pos) abc:=fun pins s σ H Q I h =>
 wpAny_Dict_empty ⟨.ref s.heap.objs.size,_,I.laid (a:=s.heap.objs.size) (o:= .dT []) (t':=s.toks) (fun _ _ q=>a8 _ q) (aP _) (Nd s.heap I.big),rfl,h _ (I.au.fresh (aP _))⟩
end L2
namespace HT
open PySem PyProof.Rows
theorem V' {t:Addr}{lo:Option Int} (ht:IsTup s.heap t items) (hs:s.heap.IsSliceOf sl vl vu .none) (pl:IsPart vl lo) (pu:IsPart vu hi)
  (h0:bc items.size 0 lo=0) (h1:bc items.size items.size hi=items.size) (h:Q (.ref t) s):wpAny (model prog w) A (getItem (.ref t) (.ref sl)) Q E s:=by
 obtain⟨os,r9,sd,se⟩:=id hs;have IF:s.TypeIs (.ref sl) "slice" :=⟨os,r9,sd⟩;unfold getItem
 try with_reducible refine eI ?_
 first|refine aa (ai ?_)|skip
 refine aa (wpAny_sequenceKey ht.typeIs (by decide) ?_)
 refine aa (C9 (name:=Str.ofString "__getitem__") ht.typeIs zf
  (md zf ht.typeIs entry_tuple_getitem ?_ (args_tuple_getitem _ _)))
 show wpAny _ _ (Builtin.Tuple.tupleItemsOf (.ref t) >>= _) _ _ s;refine aa (tupleItemsOf_ ht ?_);refine aa (oY IF ?_);rw[ax (by decide)]
 refine aa (Lx hs pl pu ?_);rw[h0,h1];have adH:((((0:Nat):Int)==0 && (1:Int)==1 && (items.size - 0)==items.size)=true):=by simp
 show wpAny _ _ (if ((((0:Nat):Int)==0 && (1:Int)==1 && (items.size - 0)==items.size)=true) then _ else _) _ _ s;rw[ax adH];refine aa (aa (oY ht.typeIs (ai ?_)));rw[ax (by decide)]
 exact aa (oU (ai ⟨_,rfl,ai h⟩))
theorem YS {t:Addr}{ws:List Value} (ht:IsTup s.heap t ([]:List Value).toArray) (hb:IsTup s.heap b ws.toArray) (h:Q (.ref b) s):wpAny (model prog w) A (binaryOp .Add (.ref t) (.ref b)) Q E s:=by
 obtain⟨⟨cls,dd,data,sl⟩,ho,hc,n,hd⟩:=id ht;obtain⟨⟨PN,BQ,data2,BR⟩,i8,gT,n2,hd2⟩:=id hb;obtain rfl:cls = .type "tuple" :=hc;obtain rfl:data = .seq #[] n:=hd;obtain rfl:PN = .type "tuple" :=gT;obtain rfl:data2 = .seq ws.toArray n2:=hd2;exact concat_meets ⟨_,ho,rfl⟩ ⟨_,i8,rfl⟩ Vj Vk Vl Vm (Vn _ _) (tuple_addW0 t b #[] ws.toArray n n2 dd BQ sl BR rfl) ⟨ho,i8,h⟩
end HT
namespace L2
open PySem PySem.Spec PyProof.Rows PySem.W
theorem Nf {o:HO} (hq:H q=none):aB H (upd H q o):=fun b u e=>by rw[ag (aq e hq)];exact e
def adI:V->Option Int->Option Int->Hp->VK->Prop:=fun x lo hi H Q=>∃a xs,x = .ref a/\H a=some (.tup xs) /\ ∀p H',aB H H'->H' p=some (.tup (jW xs lo hi))->Q (.ref p) H'
theorem N3:uL X adI:=by
 intro pins s σ H x v vl vu lo hi sl Q I rx hs pl pu h;obtain⟨a,xs,rfl,hx,q⟩:=h
 by_cases hw:HT.bc xs.length 0 lo=0/\HT.bc xs.length xs.length hi=xs.length
 ·cases rx
  obtain⟨its,r,ht,hz⟩:=I.tuple (aE.of hx);have hlen:its.toArray.size=xs.length:=by rw[b8];exact r.length.symm
  refine⟨"tuple",_,zf.lookup,ht.typeIs,HT.V' ht hs pl pu (by rw[hlen];exact hw.1) (by rw[hlen];exact hw.2) ?_⟩
  refine⟨.ref a,H,I,rfl,q a H (aB.refl _) ?_⟩;unfold jW;rw[hw.1,hw.2,Ld,Nat.sub_zero,eK];exact hx
 ·exact aaX pins s σ H (.ref a) v vl vu lo hi sl Q I rx hs pl pu ⟨a,xs,rfl,aE.of hx,hw,fun p hp=>q p _ (Nf hp) af⟩
def ab0:R2:=fun x y H Q=>∃a b xs ys,x = .ref a/\y = .ref b/\H a=some (.tup xs)/\H b=some (.tup ys)/\xs.length+ys.length<=sizeLine /\ ∀p H',aB H H'->H' p=some (.tup (xs++ys))->Q (.ref p) H'
theorem N4:cI X (binaryOp .Add) ab0:=by
 intro pins s σ H x y v u Q I rx ry h;obtain⟨a,b,xs,ys,rfl,rfl,ha,hb,hz,q⟩:=h;cases xs with
 |nil =>
  cases rx
  cases ry
  obtain⟨its,r1,p1,_⟩:=I.tuple (aE.of ha);obtain⟨nY,r2,p2,_⟩:=I.tuple (aE.of hb);cases r1
  exact HT.YS p1 p2 ⟨.ref b,H,I,rfl,q b H (aB.refl _) hb⟩
 |cons z xs=>exact ZM pins s σ H (.ref a) (.ref b) v u Q I rx ry ⟨a,b,_,ys,rfl,rfl,aE.of ha,aE.of hb,by simp,hz,fun e=>q a H (aB.refl _) (by rw[e,jM];exact ha),fun _ p hp=>q p _ (Nf hp) af⟩
theorem Z4 {k:Key} (h:(dJ P w).is k u=true):RelV (kV k) u:=by
 cases k with
 |inl i=>exact Value.isInt_shape (show Value.isInt i u=true from h)
 |inr x=>exact U6 (show Value.isStrOf x u=true from h)
theorem N5:∀ {xs:List V}{us:List Value},xs.length=us.length->(∀ (i:Nat) x u,xs[i]? = some x->us[i]? = some u->RelV x u)->Vals xs us
 |[],[],_,_=>.nil
 |[],_::_,h,_=>by simp at h
 |_::_,[],h,_=>by simp at h
 |x::xs,u::us,h,f=>.cons (f 0 x u rfl rfl) (N5 (by simpa using h) fun i y v a b=>f (i+1) y v (by simpa using a) (by simpa using b))
theorem Xm (hc:X.calm=true):eu X (.type "list") (fun xs H Q=>∃d kvs,xs = [.ref d]/\H d=some (.dK kvs) /\ ∀l,H l=none->Q (.ref l) (upd H l (.lst (kvs.map fun kv=>kV kv.1)))):=by
 intro pins s σ H xs us Q I r h;obtain⟨d,kvs,rfl,hd,q⟩:=h;obtain⟨u,rfl,rx⟩:=vals1 r;cases rx
 obtain⟨hz,lo,vs,kv,dd⟩:=O1 I.au hd;obtain⟨ep,da⟩:=dd.dictAt;have hlen:kvs.length=vs.length:=kv.length;refine kdl_call (kdl_dict (kvs:=vs) (ep:=ep) lo) (I.ok.hd hc) da (by rw[<-hlen];exact hz) fun h' tk acc c kp e it=>?_
 refine⟨.ref s.heap.objs.size,_,I.laid (t':=tk) kp (aP _) (show bu X.prog X.w _ h' _ (.lst (kvs.map fun kv=>kV kv.1)) from⟨by rw[aJ];exact hz,acc.toList,c,?_,by rw[Array.toArray_toList];exact e⟩),rfl,q _ (I.au.fresh (aP _))⟩
 refine N5 (by rw[aJ,jj];exact hlen.trans it.1.symm) fun i x v hx hv=>?_
 obtain⟨k,y,hk,hi⟩:=it.2 i v (by rw[<-zh];exact hv)
 obtain⟨RX,lM,rfl⟩:=kB.mp (by rw[<-jk];exact hx)
 have e:RX.1=k:=by
  clear it hx hv hlen da dd q hz hd
  induction kv generalizing i with
  |nil=>simp at lM
  |cons p _ ih =>
   cases i with
   |zero =>
    simp at lM hk;subst lM;rw[p.1,hk]
   |succ i=>exact ih i (by simpa using hk) (by simpa using lM)
 rw[e];exact Z4 hi
end L2
namespace HT
open PySem PyProof.Rows
section
open PySem.SeqAt
open PySem.AutoSeq1 (wpAny_loadPart')
open PySem.MeetsSeq PySem.MeetsSeq2 PySem.MeetsSeq3
end
end HT
namespace L2
open PySem PySem.Spec PyProof.Rows PySem.W HT
theorem tV {α β:Type}{F:α->β->Prop}:∀ {l:List α}{m:List β}{i:Nat}{x:α},Paired F l m->l[i]? = some x -> ∃y,m[i]? = some y/\F x y
 |_,_,i,x,.nil,e=>by simp at e
 |_,_,0,x,.cons p _,e=>by simp at e;subst e;exact⟨_,rfl,p⟩
 |_,_,i+1,x,.cons _ t,e=>by simpa using tV (i:=i) t (by simpa using e)
end L2
namespace HT
open PySem PyProof.Rows
open PySem.AutoSeq1 (wpAny_loadPart')
end HT
namespace L2
open PySem PySem.Spec PyProof.Rows PySem.W HT
end L2
namespace HT
open PySem PyProof.Rows
end HT
namespace HT
open PySem PyProof.Rows PySem.W
end HT
namespace HT
open PySem PyProof.Rows PySem.W L2
theorem zE:plainId "dict.update.loop" = true:=by decide +kernel
theorem Mw:entryFor table "dict.update.loop" = some Builtin.«dict.update.loop» :=entryFor_of_fast (by kernel_rfl)
theorem stored_new {K:Type} [DecidableEq K] {kvs:List (K×Value)}{k:K}{v:Value} (h:k ∉ kvs.map (·.1)):stored kvs k v=kvs ++ [(k,v)]:=by
 unfold stored;rw[aj];intro z;obtain⟨p,hp,e⟩:=zk.mp z;exact h (br.mpr ⟨p,hp,by simpa using e⟩)
end HT
namespace HT
open PySem PyProof.Rows
section
open PySem.SeqAt
open PySem.AutoSeq1 (wpAny_loadPart')
open PySem.MeetsSeq PySem.MeetsSeq2 PySem.MeetsSeq3
end
end HT
namespace L2
open PySem PySem.Spec PyProof.Rows PySem.W HT
theorem gi {uP:Scope} (h:(sc.names.map (·.1)).Nodup/\N'.Nodup/\FZ N N' b5 sc=true /\ ∀p∈sc.names,p.2 = .free->uP.names.lookup p.1=some .cell\/uP.names.lookup p.1=some .free) (a:sc.kind = .function:=by rfl) (b:b5.length=N'.length:=by rfl):cK N uP N' b5 sc:=⟨a,h.1,h.2.1,b,OY h.2.2.1,h.2.2.2⟩
theorem bV {P:List Str} (h:N.Nodup/\(∀x∈P,sc.names.lookup x=some .local\/sc.names.lookup x=some .cell) /\ ∀y∈sc.names,y.2 ≠ .free) (a:sc.kind = .function:=by rfl) (b:sc.isCoroutine=false:=by rfl) (c:sc.isGenerator=false:=by rfl) (d:N.take P.length=P:=by rfl):bF N P sc:=⟨a,b,c,h.1,d,h.2.1,h.2.2⟩
theorem EY {xs:List Str} (h:(xs.map V.str)[i]? = some v):i < (xs.map V.str).length /\ ∃hl:i < xs.length,V.str xs[i]=v/\xs.take (i+1)=xs.take i ++ [xs[i]]:=by
 have h1:=(cu.mp h).1;have h2:i < xs.length:=by simpa using h1
 exact⟨h1,h2,by simpa [h2] using h,by rw[eX,b4 h2];rfl⟩
theorem iE (h:n+64 < cLine):n+1 < cLine:=by omega
theorem kQ:3<=sizeLine:=by rw[aT];decide
theorem cJ:2<=sizeLine:=Nat.le_of_succ_le kQ
theorem gI:1<=sizeLine:=Nat.le_of_succ_le cJ
end L2
namespace L2
open PySem PySem.W
structure dq (P:Program) (w:World) (K:Frag) (mg:Str->Option Value) (base:Heap) (CX:j6) (k:Nat) (f:Addr) (fd:FuncData) (ps:List Str) (sp:Sp) (x:Str):Prop where
 G:aS P w K mg base CX k f fd ps sp
 k:keepIn K (.ref f)=true
 b:Binds K fd ps []
 m:mg x=some (.ref f)
section
variable{k:Nat}{p:Pos}{t:TA}
theorem cQ (C:dq X.prog X.w X.K X.mg X.base aO k f fd ps sp x) (hr:bb k X.A) (ha:PA X (e::es) t) (hg:Gl X x:=by rfl) (cN:(x==("__debug__" : Str))=false:=by decide) (he:starEach (e::es) X.env=(false,eval e X.env)::starEach es X.env:=by rfl) (cS:(backTo pos (starEach es X.env)).any (·.1)=false:=by rfl):PE X (.Call (.Name x p) (e::es) [] pos) (Aq sp [] E0 t):=iT C.G hr hg C.m C.k C.b .nil eF ha cN he cS
end
end L2
namespace L2
open PySem PySem.Spec PyProof.Rows PySem.W HT
theorem YT {h0:ExceptHandler}{hs:List ExceptHandler}{t:TS} (h:ff X body t) (hx:X.xe=fun _ _=>False):PS X (.Try body (h0::hs) [] [] pos) t:=by
 intro pins s σ H D I hw;have nr:∀ {α:Type}{tt:Sem α}{Q:α->Shared->Prop}{E:Value->Shared->Prop}{s':Shared},wpAny (model X.prog X.w) X.A tt Q X.xe s'->wpAny (model X.prog X.w) X.A tt Q E s':=fun z=>by rw[hx]at z;exact K0 z
 refine wpAny_Try_except (aw (nr (h pins s σ H D I hw)) fun f s1 z=>?_);cases f with
 |next=>exact za z
 |brk=>exact z
 |cont=>exact z
 |ret u=>exact z
theorem Mx (hc:X.calm=true):eu X (.builtin "any") (fun xs H Q=>∃ (p:Addr) (bs:List Bool),xs = [.ref p]/\ak X.K H p (bs.map V.bl)/\Q (.bl (bs.any id)) H):=by
 intro pins s σ H xs us Q I r h;obtain⟨p,bs,rfl,hq,q⟩:=h;obtain⟨u,rfl,rx⟩:=vals1 r;cases rx
 obtain⟨its,rv,pl,hz⟩:=I.list hq;have hlen:=rv.length;have vals:its=bs.map Value.bool:=by
  clear q hq pl hz r hlen
  induction bs generalizing its with
  |nil=>cases rv;rfl
  |cons b bs ih =>
   cases rv with
   |cons r1 rt=>cases r1;rw[ih _ rt];rfl
 have new:∀b o,s.heap.get? b=some o->b≠s.heap.objs.size:=fun b o e=>bx (a9 e);obtain⟨ol,qa,_⟩:=id pl.isList;refine call_any_walk (zd pl.isList ?_);refine⟨s.heap.objs.size,_,_,_,_,_,fun i=>bs.getD i false,rfl,Walks.list (A:=X.A.in1) (I.ok.hd hc) s.heap.objs.size p (new p ol qa) its.toArray,⟨⟨_,cp _ rfl,rfl,rfl⟩,pl.isList.at fun o e=>a8 _ e⟩,fun i v s2 Q2 E2 hv oF=>?_,fun h' tk kp=>?_⟩
 ·rw[vals]at hv
  have:bs[i]?.map Value.bool=some v:=by simpa using hv
  obtain⟨b,hb,rfl⟩:=kB.mp this;refine nB ?_;have e:bs.getD i false=b:=by rw[jO,hb];rfl
  exact e ▸ oF
 ·have fin:(List.range its.toArray.size).any (fun i=>bs.getD i false)=bs.any id:=by
   have hs:its.toArray.size=bs.length:=by rw[vals];simp
   rw[hs]
   apply vm.mpr
   simp only[zk,oT]
   constructor
   ·rintro⟨i,hi,e⟩
    exact⟨bs[i],kY hi,by simpa [List.getD,hi] using e⟩
   ·rintro⟨b,hb,e⟩
    obtain⟨i,hi,rfl⟩:=Lc hb;exact⟨i,hi,by simpa [List.getD,hi] using e⟩
  rw[fin];exact⟨.bl _,H,I.kept (t':=tk) fun b o e=>kp b o (by simpa using new b o e) (a8 _ e),rfl,q⟩
def IW (x:Str):It:=⟨fun i _=>i < x.cps.size,fun i H v H'=>H'=H /\ ∃c,x.cps[i]? = some c/\v = .str ⟨#[c]⟩,fun i _=>x.cps.size<=i⟩
theorem Ng (it:Addr) (x:Str) (t:Tok) (T:String) (hT : ["enumerate","zip","dict_itemiterator","dict_reverseitemiterator","odict_iterator","itertools.zip_longest","itertools.pairwise"].contains T=false)
  (W:∀A':Around,A'.handled=none->Walks P w A' it [it] [it] x.cps.size (SignAt x) (fun i h=>h.IsStrIter it T x t i))
  (hs:∀ (A:Around) (i:Nat) (s:Shared) (Q:Value->Shared->Prop) (E:Value->Shared->Prop),s.heap.IsStrIter it T x t i->Q (.ref it) s->wpAny (model P w) A (pyIter (.ref it)) Q E s):Turn P w K tg (IW x) [it] it (fun i h=>i<=x.cps.size/\h.IsStrIter it T x t i) where
 mem:=by simp
 obj:=fun i h st b hb=>by
  obtain rfl:b=it:=by simpa using hb
  obtain⟨_,o,e,c,d⟩:=st;exact⟨o,e,fun v z=>by rw[d]at z;cases z⟩
 keep:=fun i h h' st k=>by
  obtain⟨l,o,e,r⟩:=st;exact⟨l,o,k it (by simp) _ e,r⟩
 item:=by
  intro X hP hw hK hc i pins s σ H E I hf st hg;subst hP hw hK;obtain⟨f0,f1,f2,f3,f4,f5⟩:=hf it (by simp)
  refine(W X.A (I.ok.hd hc)).item i s _ _ hg st.2 fun v h' tk hv i6 kk=>?_;obtain⟨c,u,hcx,rfl⟩:=hv;have I1:Inv X pins σ H { s with heap:=h',toks:=tk }:=I.turned (fun b o hb e=>kk b o (by simpa using hb) e) f0 f1 f3 f4 f5
  obtain⟨o,e,cl,d⟩:=id i6;exact⟨_,rfl,An (s:={ s with heap:=h',toks:=tk }) e cl d hT ⟨.str ⟨#[c]⟩,H,I1,⟨u,rfl⟩,⟨rfl,c,hcx,rfl⟩,⟨hg,i6⟩,fun b hb=>(hf b hb).1⟩⟩
 done:=by
  intro X hP hw hK hc i pins s σ H E I hf st hg;subst hP hw hK;obtain⟨f0,f1,f2,f3,f4,f5⟩:=hf it (by simp)
  have ei:i=x.cps.size:=Nat.le_antisymm st.1 hg;subst ei;exact(W X.A (I.ok.hd hc)).done s _ _ st.2 fun h' tk kk=>⟨rfl,I.turned (fun b o hb e=>kk b o (by simpa using hb) e) f0 f1 f3 f4 f5⟩
 self:=fun A i s Q E st h=>hs A i s Q E st.2 h
def adJ (te:TE):TI:=fun σ H R=>te σ H fun v H1=>∃x,v = .str x/\R (IW x) H1
theorem abd (he:PE X e te):PI X tg e (adJ te):=by
 intro pins s σ H R I h;refine aw (he pins s σ H _ I h) fun v s1 ⟨y,H1,I1,r1,x,ey,q⟩=>?_;subst ey;obtain⟨t,rfl⟩:=r1;have I2:∀o:Obj,Inv X pins σ H1 { s1 with heap:=s1.heap.push o }:=fun o=>I1.kept (t':=s1.toks) fun b ob z=>a8 _ z;have fp:∀b ∈ [s1.heap.objs.size],iC X pins H1 b:=fun b hb=>by
  obtain rfl:b=s1.heap.objs.size:=by simpa using hb
  exact I1.mE (aP _) (I1.au.fresh (aP _))
 cases ha:x.cps.all (· < 128)
 ·refine wpAny_pyIter_wide ha ?_
  exact⟨s1.heap.objs.size,[s1.heap.objs.size],_,_,H1,rfl,I2 _,Ng s1.heap.objs.size x t "str_iterator" (by decide) (fun A' hA=>Walks.strWide hA _ x t) (fun _ _ _ _ _ st h=>wpAny_pyIter_striter_wide st h),⟨bf _,_,cp _ rfl,rfl,rfl⟩,fp,q⟩
 ·refine wpAny_pyIter_ascii ha ?_
  exact⟨s1.heap.objs.size,[s1.heap.objs.size],_,_,H1,rfl,I2 _,Ng s1.heap.objs.size x t "str_ascii_iterator" (by decide) (fun A' hA=>Walks.strAscii hA _ x t) (fun _ _ _ _ _ st h=>wpAny_pyIter_striter_ascii st h),⟨bf _,_,cp _ rfl,rfl,rfl⟩,fp,q⟩
theorem YU {g:TG}{Q:VK} (Pv:Nat->List V->St->Hp->Prop) (h0:Pv 0 [] iI (upd H1 p (.lst []))) (hl:∀i ys τ H,Pv i ys τ H->H p=some (.lst ys))
  (hs:∀i c ys τ H,x.cps[i]? = some c->Pv i ys τ H->g (.str ⟨#[c]⟩) τ H fun cz H4=>ti cz H4 fun b H5=>if b=true then te cz H5 fun y H6=>H6 p=some (.lst ys)/\ys.length < sizeLine /\ ∃m',m' < x.cps.size - i/\CW Pv x.cps.size (i+1) m' (ys ++ [y]) cz (upd H6 p (.lst (ys ++ [y]))) else ∃m',m' < x.cps.size - i/\CW Pv x.cps.size (i+1) m' ys cz H5)
  (hd:∀ys τ H,Pv x.cps.size ys τ H->Q (.ref p) H):mr (IW x) g ti te iI Q p H1:=by
 refine⟨CW Pv x.cps.size,⟨x.cps.size,by simp,bf _,h0⟩,?_⟩
 rintro i m ys τ H ⟨rfl,hi,pv⟩;refine⟨hl i ys τ H pv,?_⟩
 by_cases aV:i < x.cps.size
 ·refine .inr ⟨aV,fun v H3 y3=>?_⟩
  obtain⟨e3,c,hc,rfl⟩:=y3;subst e3;exact hs i c ys τ _ hc pv
 ·have e:i=x.cps.size:=by omega
  subst e;exact .inl ⟨aP _,hd ys τ H pv⟩
end L2
namespace HT
open PySem PyProof.Rows PySem.W L2
theorem Wd (a:Addr) (vs:Array Value) (n:Nat) (u:Tok) (sl:Array (Option Value)) :
  Meets (Builtin.«object.__getattribute__» ⟨[.ref a,.str "keys" u],[]⟩) (fun A R s=>s.heap.get? a=some { cls:= .type "tuple",dict:=none,data:= .seq vs n,slots:=sl }/\raisesAttr (.ref a) "keys" A R s):=
 meets_getattribute_miss_tuple a vs n sl "keys" u (by rw[VA,VB];kernel_rfl) (by decide +kernel) (by rw[aT];decide +kernel)
theorem YV {vs:Array Value}{sl:Array (Option Value)}{Q:Option Value->Shared->Prop} (hx:s.heap.get? a=some { cls:= .type "tuple",dict:=none,data:= .seq vs n,slots:=sl }) (hA:A.handled=none)
  (h:∀h' tk,(∀b o,s.heap.get? b=some o->h'.get? b=some o)->Q none { s with heap:=h',toks:=tk }):wpAny (model prog w) A (getAttr? (.ref a) "keys") Q E s:=by
 obtain⟨hp,g,d,tk,os⟩:=s;have hT:∀oE,(⟨hp,g,d,oE,os⟩:Shared).TypeIs (.ref a) "tuple" :=fun _=>⟨_,hx,rfl⟩;have f1:=sub_AttributeError;have f3:=VC.lookup;have f4:=VC.bind (.ref a);have f5:=am_tuple_getattr_none;unfold getAttr? getAttrBy? getAttrBy
 repeat (any_goals (first|assumption|exact hT _|((with_reducible show wpAny _ _ (call (Value.builtin "tuple.__getattribute__") _ _) _ _ _);refine sQ VC (hT _) am_entry_tuple_getattribute (F.args_tuple_getattribute_2 _ _) (Wd a vs n _ sl) ⟨hx,hA,fun h' oE e di=>?_⟩)|wp_step))
 obtain⟨t',u',he⟩:=di.there;show wpAny _ _ (getattributeRaised _ _ _ _ _ _ _) _ _ _;unfold getattributeRaised
 repeat (any_goals (first|assumption|wp_step))
 exact h h' oE di.keeps
section
variable{R:Result->Shared->Prop}{t:Addr}{vs:Array Value}
theorem YW {Q:Unit->Shared->Prop}{T:Addr}{x y:Value}{k:Key}{kvs:List (Key×Value)}{i:Int} (hT:IsTup s.heap T #[x,y]) (hk:(dJ prog w).is k x=true) (hd:s.heap.DictOf (dJ prog w) d kvs) (new:k ∉ kvs.map (·.1)) (hz:kvs.length<=sizeLine)
  (q:∀h' tk,h'.DictOf (dJ prog w) d (kvs ++ [(k,y)])->Heap.SameBut d s.heap h'->Q () { s with heap:=h',toks:=tk }) :
  wpAny (model prog w) A (holding [Value.ref T] (do
   let pair <- (Builtin.Dict.pairItems (.ref T)).tryCatch fun e=>do
    if !(<- isInstance e (.type "TypeError")) then throw e
    rule "dict.update.element-no-sequence"
    raiseError "TypeError" s!"cannot convert dictionary update sequence element #{i} to a sequence"
   match pair with
   |[k,v]=>holding [k,v] (dictSet d k v)
   |l =>
    rule "dict.update.element-length"
    raiseError "ValueError" s!"dictionary update sequence element #{i} has length {l.length}; 2 is required")) Q E s:=by
 refine eI (aa (wpAny_tryCatch ?_));unfold Builtin.Dict.pairItems;refine aa (oY hT.typeIs ?_);rw[ax (by decide)]
 obtain⟨o,ho,_,n,jb⟩:=hT;refine aa (wpAny_seqItems ho jb (ai ?_));show wpAny _ _ (holding [x,y] (dictSet d x y)) _ _ _;refine eI (wpAny_dictSet_pairs (hsz:=hz) hk hd fun h' dd sb=>?_);rw[stored_new new]at dd;exact q h' _ dd sb
theorem Z5 (hh:A.in1.handled=none) (IX:d≠it) (RY:d≠t) (RZ:t≠it) (ps:List (Key×Value)) (nd:(ps.map (·.1)).Nodup) (hz:ps.length<=sizeLine) (hsz:vs.size=ps.length) (hv:IsTup g t vs)
  (si:∀ (i:Nat) p,ps[i]? = some p -> ∃a x,vs[i]? = some (.ref a)/\a≠it/\a≠d/\IsTup g a #[x,p.2]/\(dJ prog w).is p.1 x=true) :
  ∀ (m k:Nat) (s:Shared),ps.length - k=m->k<=ps.length->IsTupIter s.heap it t k->s.heap.DictOf (dJ prog w) d (ps.take k) ->
   (∀b o,b≠it->b≠d->g.get? b=some o->s.heap.get? b=some o) ->
   (∀h' tk,h'.DictOf (dJ prog w) d ps->(∀b o,b≠it->b≠d->g.get? b=some o->h'.get? b=some o)->R (.ok (.ret .none)) { s with heap:=h',toks:=tk }) ->
   codeAny (model prog w) A (.builtin "dict.update.loop" ⟨[.ref d,.ref it,rawInt k,.none],[]⟩) R s:=by
 have up:∀ {b:Addr}{us:Array Value}{h:Heap},b≠it->b≠d->(∀b o,b≠it->b≠d->g.get? b=some o->h.get? b=some o)->IsTup g b us->IsTup h b us:=fun n1 n2 kp ⟨o,ho,r⟩=>⟨o,kp _ _ n1 n2 ho,r⟩;intro m
 induction m with
 |zero =>
  intro k s hm hk t1 dd kp hR;have ek:k=ps.length:=by omega
  refine mf Mw (?_:wpAny _ _ _ _ _ _);rw[nF zE _];show wpAny _ A.in1 (pyNext (.ref it) >>= _) _ _ s;refine aa (next_tuple_end hh t1 (up RZ RY.symm kp hv) (by simp;omega) fun h' k'=>?_)
  refine aa (m:=Builtin.Dict.addKeywords d []) (ai (ai ?_));have j8:h'.DictOf (dJ prog w) d (ps.take k):=dd.at fun o e=>k' d o IX e;rw[ek,eK]at j8;exact hR h' s.toks j8 fun b o a1 a2 e=>k' b o a1 (kp b o a1 a2 e)
 |succ m ih =>
  intro k s hm hk t1 dd kp hR;have aV:k < ps.length:=by omega
  have hp:ps[k]? = some ps[k]:=b4 aV;obtain⟨a,x,hva,B0,na2,ab1,mF⟩:=si k _ hp;have tk1:ps.take (k+1)=ps.take k ++ [ps[k]]:=by rw[eX,hp];rfl
  have new:ps[k].1 ∉ (ps.take k).map (·.1):=fun w=>by
   have e:ps.map (·.1)=(ps.take k).map (·.1)++(ps.drop k).map (·.1):=by rw[<-bB,VD]
   rw[e,g9]at nd;refine nd.2.2 _ w _ ?_ rfl;rw[vp aV];exact aW
  refine mf Mw (?_:wpAny _ _ _ _ _ _);rw[nF zE _];show wpAny _ A.in1 (pyNext (.ref it) >>= _) _ _ s;refine aa (next_tuple_item t1 (up RZ RY.symm kp hv) hva fun h' t1' sb=>?_);have uT:∀b o,b≠it->b≠d->g.get? b=some o->h'.get? b=some o:=fun b o a1 a2 e=>sb.extBut b o a1 (kp b o a1 a2 e);have j8:h'.DictOf (dJ prog w) d (ps.take k):=dd.at fun o e=>sb.extBut d o IX e;refine aa (YW (s:={ s with heap:=h' }) (k:=ps[k].1) (up B0 na2 uT ab1) mF j8 new (by rw[eJ];omega) fun iL tk adK R0=>?_)
  rw[show((k:Int)+1)=((k+1:Nat):Int) from rfl];exact ai ⟨o3 zE _,ih (k+1) _ (by omega) aV (t1'.extBut R0.extBut IX.symm) (by rw[tk1];exact adK) (fun b o a1 a2 e=>R0.extBut b o a2 (uT b o a1 a2 e)) hR⟩
theorem Wl (hh:A.handled=none) (ps:List (Key×Value)) (nd:(ps.map (·.1)).Nodup) (hz:ps.length<=sizeLine) (hsz:vs.size=ps.length) {sl:Array (Option Value)}
  (hv:s.heap.get? t=some { cls:= .type "tuple",dict:=none,data:= .seq vs n,slots:=sl })
  (si:∀ (i:Nat) p,ps[i]? = some p -> ∃a x,vs[i]? = some (.ref a)/\IsTup s.heap a #[x,p.2]/\(dJ prog w).is p.1 x=true)
  (q:∀d h' tk,s.heap.objs.size<=d->h'.DictOf (dJ prog w) d ps->(∀b o,s.heap.get? b=some o->h'.get? b=some o)->Q (.ref d) { s with heap:=h',toks:=tk }) :
  wpAny (model prog w) A (call (.type "dict") [.ref t]) Q E s:=by
 refine callType_codes (Q₁:=fun obj bh=>obj = .ref s.heap.objs.size/\bh={ s with heap:=s.heap.push { cls:= .type "dict",data:= .dict #[] } }) F.kt_called_dict (F.kt_typeCall_dict_1 _) F.entry_dict_init (kt_code_dict_new _ ⟨rfl,rfl⟩) ?_;rintro obj bh ⟨rfl,rfl⟩;have dn:(s.heap.push { cls:= .type "dict",data:= .dict #[] }).DictOf (dJ prog w) s.heap.objs.size []:=Heap.DictOf.new s.heap;have k2:∀b o,s.heap.get? b=some o->(s.heap.push { cls:= .type "dict",data:= .dict #[] }).get? b=some o:=fun b o e=>a8 _ e;generalize s.heap.push { cls:= .type "dict",data:= .dict #[] }=h2 at dn k2 ⊢;refine⟨dn.typeIs,F.args_dict_init_2 _ _,?_⟩;unfold Builtin.«dict.__init__»;refine aa ?_;unfold Builtin.Dict.selfAndRest;refine aa (wpAny_notOrdered_dict dn.typeIs ?_);refine(ai ?_:wpAny _ _ (pure (s.heap.objs.size,[Value.ref t])) _ _ _);show wpAny _ _ (Builtin.Dict.updateFrom "dict.__init__" s.heap.objs.size (.ref t) [] .none) _ _ _;unfold Builtin.Dict.updateFrom;have v2:=k2 _ _ hv;refine aa (oY (T:= "tuple") ⟨_,v2,rfl⟩ ?_);rw[ax (by decide)]
 refine aa (YV v2 hh fun h3 B1 k3=>?_);rw[ax (by decide)]
 have it3:IsTup h3 t vs:=⟨_,k3 _ _ v2,rfl,n,rfl⟩;refine aa (oU (aa (iter_tuple it3 ?_)));refine ai ⟨o3 zE _,?_⟩;have up:∀b o,s.heap.get? b=some o->h3.get? b=some o:=fun b o e=>k3 b o (k2 b o e);have B4:s.heap.objs.size < h3.objs.size:=by
  obtain⟨o,_,_,ho,_⟩:=dn;exact a9 (k3 _ _ ho)
 have dd3:h3.DictOf (dJ prog w) s.heap.objs.size []:=dn.at fun o e=>k3 _ o e;have lt:∀ {b:Addr}{o:Obj},s.heap.get? b=some o->b < s.heap.objs.size:=fun e=>a9 e;refine Z5 (A:=A.in1) (g:=s.heap) (it:=h3.objs.size) hh (bx B4) (oV (lt hv)) (bx (vo (lt hv) B4)) ps nd hz hsz ⟨_,hv,rfl,n,rfl⟩ (fun i p hp=>?_) _ 0 _ rfl (bf _) ⟨_,cp _ rfl,rfl,rfl⟩ (dd3.at fun o e=>a8 _ e) (fun b o _ _ e=>a8 _ (up b o e)) fun h' tk dd kp=>?_
 ·obtain⟨a,x,h1,xS,h3'⟩:=si i p hp
  obtain⟨o,ho,_⟩:=id xS;exact⟨a,x,h1,bx (vo (lt ho) B4),bx (lt ho),xS,h3'⟩
 ·exact⟨rfl,q _ h' tk (aP _) dd fun b o e=>kp b o (bx (vo (lt e) B4)) (bx (lt e)) e⟩
end
end HT
namespace L2
open PySem PySem.Spec PyProof.Rows PySem.W HT
theorem My:cI X (compareOp .LtE) (fun x y H Q=>∃i j,x = .str i/\y = .str j/\Q (.bl (!decide (j.cps.toList < i.cps.toList))) H):=by
 intro pins s σ H x y v u Q I rx ry ⟨i,j,ex,ey,q⟩;subst ex ey;obtain⟨t,rfl⟩:=rx;obtain⟨t',rfl⟩:=ry;exact P.le_str (cX I q rfl)
def OG (H:Hp) (vs:List V) (kvs:List (Str×V)):Prop:=Paired (fun y p=>∃a,y=V.ref a/\H a=some (.tup [.str p.1,p.2])) vs kvs
def t7 (kvs:List (Str×V)):List (Key×V):=kvs.map fun p=>(Sum.inr p.1,p.2)
theorem N6:∀ (kvs:List (Str×V)) (ys:List Value),ys.length=kvs.length->(∀ (i:Nat) (hi:i < kvs.length),∃y,ys[i]? = some y/\RelV kvs[i].2 y)->KV (t7 kvs) ((kvs.map fun p=>(Sum.inr p.1:Key)).zip ys)
 |[],ys,h,_=>.nil
 |p::kvs,[],h,_=>by simp at h
 |p::kvs,y::ys,h,f=>by
  obtain⟨y',e,r⟩:=f 0 (by simp)
  obtain rfl:y=y':=by simpa using e
  exact .cons ⟨rfl,r⟩ (N6 kvs ys (by simpa using h) fun i hi=>by
   obtain⟨y2,e2,r2⟩:=f (i+1) (Nat.succ_lt_succ hi);exact⟨y2,by simpa using e2,r2⟩)
theorem We:eu X (.type "tuple") (fun xs H Q=>∃p ys,xs = [.ref p]/\ak X.K H p ys /\ ∀l o,H l=none->o.dict=none->Q (.ref l) (upd H l (.cq o (.tup ys)))):=by
 intro pins s σ H xs us Q I r ⟨p,ys,ex,hq,q⟩;subst ex;obtain⟨u,rfl,rx⟩:=vals1 r;cases rx
 obtain⟨its,r',pl,hz⟩:=I.list hq;have hlen:=r'.length;refine call_tuple_list pl.isList (fun h' kp=>?_) (by simp only[b8] <;> omega)
 have I1:Inv X pins σ H { s with heap:=h' }:=I.kept (t':=s.toks) kp;refine⟨.ref h'.objs.size,_,I1.laid (o:= .cq { cls:= .type "tuple",data:= .seq its.toArray } (.tup ys)) (t':=s.toks) (fun b o e=>a8 _ e) (aP _) ⟨cp _ rfl,hz,its,r',nV.new _ _⟩,rfl,q _ _ (I1.au.fresh (aP _)) rfl⟩
end L2
namespace L2
open PySem PySem.W
def ab2 (_ j:Int):Prop:=0 < j/\j < 4611686018427387904
theorem YX:cI X (binaryOp .FloorDiv) (rI ab2 fun i j=>.int (i / j)):=uJ fun i j _ _ _ _ _ hc q=>by
 have h1:(0:Int) < j:=hc.1;have h2:j < 4611686018427387904:=hc.2;refine PyProof.Rows.floordiv_int (by omega) (by rw[ank i (by omega)];exact q) (.inl (PyProof.noPylong_of_log2 ?_))
 have h3:j.natAbs < 2 ^ 62:=by omega
 have h4:j.natAbs.log2 < 62:=(Nat.log2_lt (by omega)).mpr h3
 omega
end L2
namespace L2
open PySem PySem.W PySem.Calls PyProof.Rows
section
variable{α β:Type}
def Pm (n:Nat) (p:Array Nat):Prop:=p.toList.Perm (List.range n)
theorem Pm.lt {p:Array Nat} (h:Pm n p) (hn:0 < n) (i:Nat):p.getD i 0 < n:=by
 rw[nG];cases e:p[i]? with
 |none=>exact hn
 |some x =>
  have:x∈p.toList:=Array.mem_def.mp (anM e);exact oT.mp (h.mem_iff.mp this)
theorem Pm.rev {p:Array Nat} (h:Pm n p) (i j:Nat):Pm n (kas_rev p i j):=(anN.mp (mirror_perm p i j _)).trans h
theorem Pm.bub {p:Array Nat} (h:Pm n p) (i j:Nat):Pm n (bubble p i j):=(anN.mp (bubble_perm p i j)).trans h
theorem OH {γ:Type}{p:Array Nat}{vs:List γ} (d:γ) (h:Pm vs.length p):(p.toList.map fun i=>vs.getD i d).Perm vs:=by
 have h1:=List.Perm.map (fun i=>vs.getD i d) h;refine h1.trans (List.Perm.of_eq ?_)
 apply VE
 ·simp
 ·intro i h1 h2
  simp[List.getD,h2]
end
theorem LM {α β:Type}{F:α->β->Prop}{l l':List α} (h:l'.Perm l):∀ {m:List β},Paired F l m -> ∃m',m'.Perm m/\Paired F l' m':=by
 induction h with
 |nil=>intro m p;exact⟨m,.refl _,p⟩
 |cons x _ ih =>
  intro m p;cases p with
  |cons q t =>
   obtain⟨m',e,r⟩:=ih t;exact⟨_::m',e.cons _,.cons q r⟩
 |swap x y l =>
  intro m p;cases p with
  |cons q t =>
   cases t with
   |cons q2 t=>exact⟨_,List.Perm.swap _ _ _,.cons q2 (.cons q t)⟩
 |trans _ _ IY IZ =>
  intro m p;obtain⟨m2,e2,p2⟩:=IZ p;obtain⟨m1,e1,p1⟩:=IY p2;exact⟨m1,e1.trans e2,p1⟩
theorem abe {o:HO} (x:bu P w H h a o):∃q,h.get? a=some q:=by
 cases o with
 |lst xs=>obtain⟨_,_,_,_,e⟩:=x;exact⟨_,e⟩
 |tup xs=>obtain⟨_,_,_,q,e,_⟩:=x;exact⟨q,e⟩
 |dK kvs=>obtain⟨_,_,_,_,o,_,_,e,_⟩:=x;exact⟨o,e⟩
 |dT kvs=>obtain⟨_,_,_,_,o,_,_,e,_⟩:=x;exact⟨o,e⟩
 |set S n=>obtain⟨o,_,_,_,e,_⟩:=x;exact⟨o,e⟩
 |ins C dx fs=>obtain⟨_,_,_,e,_⟩:=x;exact⟨_,e⟩
 |own y=>exact x
 |xd fs=>obtain⟨_,⟨o,_,_,e,_⟩,_⟩:=x;exact⟨o,e⟩
 |xA lo hi=>obtain⟨_,_,_,e⟩:=x;exact⟨_,e⟩
 |cq q u=>exact⟨q,x.1⟩
 |oj ps=>exact⟨_,x⟩
 |met f y=>exact⟨_,x⟩
 |ext φ=>exact x.2.1
theorem Inv.sorted {σ:List (Option V)}{m:Str->Option Value}{out:List Value}{c:Nat} (I:Inv X pins σ H s) (hm:s.heap.Ns X.env.locals m) (mQ:h'.Ns X.env.locals m)
  (k:∀b o,b≠X.env.locals->s.heap.get? b=some o->h'.get? b=some o) (hD:∀b o,s.heap.get? b=some o->b≠D) (new:h'.get? D=some (listOf out.toArray c)) (r:Vals ys out) (hz:ys.length<=sizeLine) :
  H D=none/\Inv X pins σ (upd H D (.lst ys)) { s with heap:=h',toks:=t' }:=by
 have there:∀b u,H b=some u -> ∃o,s.heap.get? b=some o:=fun b u e=>abe (I.au b u e);have hn:H D=none:=by
  cases q:H D with
  |none=>rfl
  |some u =>
   obtain⟨o,e⟩:=there D u q;exact absurd rfl (hD D o e)
 have xT:∀b u,H b=some u->b≠D:=fun b u e z=>by rw[z,hn]at e;cases e
 have xC:∀b u,H b=some u->b≠X.env.locals:=fun b u e z=>by rw[z,I.free]at e;cases e
 refine⟨hn,I.step (g':=s.gens) (d':=s.drawn) (ch:= []) (fun _ z=>nomatch z) (fun b o hL _ _ e _=>k b o hL e) (fun b o hL _ _ e _=>⟨o.slots,k b o hL e⟩) (fun b o _ e n=>by rw[ag (hD b o e)];exact n) (fun b o _ e=>?_)
  (fun b xs e=>by rw[ag (xT b _ e)];exact e) (fun b o u e=>by rw[ag (xT b _ e)];exact e) (fun b ps e=>⟨#[],by rw[ag (xT b _ e),e];simp⟩) (fun m' q=>?_) (fun b u e=>?_) I.bare⟩
 ·by_cases hb:b=X.env.locals
  ·obtain⟨o',es,ep,ho,_⟩:=mQ
   exact⟨o',by rw[hb];exact ho⟩
  ·exact⟨o,k b o hb e⟩
 ·obtain⟨o,es,ep,ho,hd,hs,hf⟩:=hm
  obtain⟨o2,I0,ep2,i8,hd2,xE,xU⟩:=q;rw[ho]at i8;cases i8;rw[hd]at hd2;cases hd2;have:m'=m:=funext fun x=>(xU x).symm.trans (hf x);rw[this];exact mQ
 ·by_cases hb:b=D
  ·subst hb
   rw[af]at e;cases e;exact⟨hz,out,c,r,new⟩
  ·rw[ag hb]at e
   refine(I.au b u e).hW (fun a v hc q=>k a v ?_ q) (fun a q=>by rw[ag (xT a _ q)];exact q) fun a xs q=>by rw[ag (xT a _ q)];exact q
   rcases hc with z|z
   ·rw[z];exact xC b u e
   ·exact xC a _ z
theorem X2 {B:Around}{R:PySem.Fin->Shared->Prop} (at_:s.heap.get? a=some (seqObj "list" us.toArray n)) (aX:us.length < 2)
  (k:∀c g,(∀b o,b≠a->s.heap.get? b=some o->g.get? b=some o)->g.get? a=some (listOf us.toArray c)->R (.done (.ret .none)) { s with heap:=g }):wpAny (model P w) B (Builtin.«list.sort» ⟨[.ref a],[]⟩) R E s:=by
 obtain⟨ep,gone⟩:∃ep,(s.heap.update a (Obj.mapSeq fun _=>(#[]:Array Value))).get? a=some (seqObj "list" #[] ep):=⟨_,get?_update_seq at_ fun _=>#[]⟩;have fits:us.toArray.size<=sizeLine:=by rw[aT,b8];omega
 have small:us.toArray.size < 2:=by simpa using aX
 rw[list_sort_plain];refine aa (listItems_at at_ rfl (aa (listUpdate_at at_ rfl (aa (seqEpoch_at gone rfl (aa (wpAny_newTuple (aa (Lg (eI ?_) (bf _))) (by simpa using fits))))) fits (bf _))))
 have two:∀b o,(s.heap.update a (Obj.mapSeq fun _=>(#[]:Array Value))).get? b=some o->(((s.heap.update a (Obj.mapSeq fun _=>(#[]:Array Value))).push (seqObj "tuple" us.toArray 0)).push (seqObj "list" #[] 0)).get? b=some o:=fun b o q=>a8 _ (a8 _ q)
 change wpAny (model P w) B _ R E { s with heap:=((s.heap.update a (Obj.mapSeq fun _=>(#[]:Array Value))).push (seqObj "tuple" us.toArray 0)).push (seqObj "list" #[] 0) }
 have Au:=two _ _ gone;have others:∀b o,b≠a->s.heap.get? b=some o->(((s.heap.update a (Obj.mapSeq fun _=>(#[]:Array Value))).push (seqObj "tuple" us.toArray 0)).push (seqObj "list" #[] 0)).get? b=some o:=fun b o nb q=>two b o (((Dh s.heap a _).2 b nb).trans q);generalize (((s.heap.update a (Obj.mapSeq fun _=>(#[]:Array Value))).push (seqObj "tuple" us.toArray 0)).push (seqObj "list" #[] 0))=g at Au others ⊢
 dsimp only
 rw[ax small,ax small];refine aa (ai (aa (ai ?_)));have same:(arrOf (SortSt.mk' general' (us.toArray.zip us.toArray) #[] 7 none)).map (·.2)=us.toArray:=K9.mp (by show((us.toArray.zip us.toArray).map (·.2)).toList=_;simp[List.map_snd_zip])
 dsimp only
 rw[same];refine aa (seqEpoch_at Au rfl (aa (listUpdate_at Au rfl ?_ (bf _) (Di fits))));obtain⟨c,back⟩:∃c,(g.update a (Obj.mapSeq fun _=>us.toArray)).get? a=some (seqObj "list" us.toArray c):=⟨_,get?_update_seq Au fun _=>us.toArray⟩;simp only[bne_self_eq_false,ir,oZ];exact ai (k c _ (fun b o nb q=>((Dh g a _).2 b nb).trans (others b o nb q)) back)
theorem Mz {γ:Type}{f:γ->V}{g:γ->Value} (h:∀x,RelV (f x) (g x)):∀l:List γ,Vals (l.map f) (l.map g)
 |[]=>.nil
 |x::l=>.cons (h x) (Mz h l)
end L2
namespace L2
open PySem PySem.W PySem.Spec PyProof.Rows
def R1 (a b:Str):Prop:=a.cps.toList<=b.cps.toList
theorem YY {a b:Str} (h1:R1 a b) (h2:R1 b a):a=b:=by
 have e:a.cps.toList=b.cps.toList:=List.le_antisymm h1 h2;cases a;cases b
 exact eU Str.mk (K9.mp e)
theorem DT:∀ {us:List Value}{ss:List Str},StrsAre us ss->Vals (ss.map V.str) us
 |_,_,.nil=>.nil
 |_,_,.cons _ t r=>.cons ⟨t,rfl⟩ (DT r)
theorem Wu:eu X (.builtin "sorted") (fun xs H Q=>∃p ss,xs = [.ref p]/\ak X.K H p (ss.map V.str)/\ss.length<=63 /\ ∀D fU,H D=none->fU.Perm ss->sortedS fU=true->Q (.ref D) (upd H D (.lst (fU.map V.str)))):=by
 intro pins s σ H xs us Q I r ⟨p,ss,ex,hq,sj,q⟩;subst ex;obtain⟨u,rfl,rx⟩:=vals1 r;cases rx
 obtain⟨its,rv,pl,hz⟩:=I.list hq;have hl:=rv.length;rw[aJ]at hl;obtain⟨m,hm,_⟩:=id I.loc;obtain⟨g0,Ja,sk⟩:∃g0:Heap,g0.objs.size=0 /\ ∀b,g0.get? b=none:=⟨{ s.heap with objs:= #[] },rfl,fun b=>C8 (bf _)⟩;have F:Fr g0 X.env.locals s.heap m:=⟨hm,fun b o e=>(by rw[sk]at e;cases e),by rw[Ja];exact bf _⟩
 refine sorted_N_str F (M3 (g:=g0) (L:=X.env.locals)) pl.isList (vC rv) (by omega) fun h' xV fU e F' N' Jb ij kO=>?_
 obtain⟨hn,I'⟩:=Inv.sorted (t':=s.toks) (ys:=fU.map V.str) I hm F'.ns (fun b o n e=>(N' (b,o) (bq _ (DC n (sk b) e))).1) (fun b o e=>bx (qK (a9 e))) (N' _ aW).1 (DT Jb) (by rw[aJ,ij.length_eq,aT];omega)
 exact⟨.ref _,_,I',rfl,q _ fU hn ij kO⟩
end L2
namespace HS
open PySem PySem.Spec PyProof.Rows
theorem Z6 (t:SetTable) (es:Array (Int×Value)) (z:Int) (x:Value):(layNew t es z x).2.1.led=t.led:=by
 unfold layNew;split
 ·dsimp only
  unfold SetTable.orStandIn;split <;> rfl
 ·rfl
theorem Xn {t u:SetTable}{zs:Array Int}{ord:Array Nat} (e:t.relaid zs n=some (u,ord)):u.led=t.led/\u.plain=t.plain:=by
 unfold SetTable.relaid SetTable.laid at e;cases c:SetTable.layClean (SetTable.sizeAbove n - 1) zs with
 |none=>rw[c]at e;cases e
 |some ow =>
  rw[c]at e;have e2:=gA e;have e3:=eU Prod.fst e2
  dsimp only at e3
  rw[<-e3];exact⟨rfl,rfl⟩
theorem WN (t:SetTable) (es:Array (Int×Value)) (n:Nat):(relayAll t es n).2.1.led=t.led/\(t.plain=false->(relayAll t es n).2.1.plain=false):=by
 unfold relayAll;split
 ·rename_i u ord e
  obtain⟨h1,h2⟩:=Xn e
  dsimp only
  split
  ·exact⟨h1,fun z=>h2.trans z⟩
  ·exact⟨rfl,fun _=>rfl⟩
 ·exact⟨rfl,fun _=>rfl⟩
def f7 (P:Program) (w:World) (h:Heap) (a:Addr) (xs:List Str):Prop:=
 ∃o es ep t,h.get? a=some o/\o.ExactSet/\o.data = .set es ep t/\ElemsOf (strKind P w) es.toList/\(∀k,k∈xs ↔ ∃e∈es.toList,(strKind P w).is k e.2=true) /\
  es.size < scanBound/\t.fits es.size=true/\es.size=xs.length/\t.led=(!w.params.followText "set-order")/\(es.size≠0->t.plain=false)
theorem f7.keep {xs:List Str} (x:f7 P w h a xs) (k:∀o,h.get? a=some o->h'.get? a=some o):f7 P w h' a xs:=let ⟨o,es,ep,t,e,r⟩:=x;⟨o,es,ep,t,k o e,r⟩
theorem f7.lt {xs:List Str} (x:f7 P w h a xs):a < h.objs.size:=let ⟨_,_,_,_,e,_⟩:=x;a9 e
theorem f7.typeIs {xs:List Str} (x:f7 P w s.heap a xs):s.TypeIs (.ref a) "set" :=let ⟨o,_,_,_,e,c,_⟩:=x;⟨o,e,c.1⟩
theorem YZ (e:h.get? a=some { cls:= .type "set",dict:=none,data:= .set #[] 0 (.fresh 0 0 (!w.params.followText "set-order")) }):f7 P w h a []:=
 ⟨_,#[],0,_,e,⟨rfl,rfl,rfl⟩,rfl,fun z hz=>(by simp at hz),fun k=>(by simp),by decide,by rfl,rfl,rfl,fun z=>absurd rfl z⟩
def iW (xs:List Str) (k:Str):List Str:=if k∈xs then xs else xs ++ [k]
section
variable{xs:List Str}
theorem Nh {es gb:Array (Int×Value)}{t t':SetTable}{ys:List Str} (ho:h.get? a=some o) (hx:o.ExactSet) (hd:o.data = .set es ep t) (oG:ElemsOf (strKind P w) gb.toList)
  (hm:∀k,k∈ys ↔ ∃e∈gb.toList,(strKind P w).is k e.2=true) (hb:gb.size < scanBound) (hf:t'.fits gb.size=true) (hn:gb.size=ys.length) (hl:t'.led=(!w.params.followText "set-order")) (hp:t'.plain=false) :
  (h.update a (Obj.putSet gb t')).get? a=some { o with data:= .set gb (ep+1) t' }/\f7 P w (h.update a (Obj.putSet gb t')) a ys:=by
 have hg:(h.update a (Obj.putSet gb t')).get? a=some { o with data:= .set gb (ep+1) t' }:=by
  have z:=zg (Obj.putSet gb t') ho (by rw[putSet_of gb t' hd];rfl)
  rw[putSet_of gb t' hd]at z;exact z
 exact⟨hg,_,gb,ep+1,t',hg,hx,rfl,oG,hm,hb,hf,hn,hl,fun _=>hp⟩
theorem Y0 {k:Str}{Q:Bool->Shared->Prop} (hS:f7 P w s.heap a xs) (room:xs.length+1 < scanBound) (h:∀h',Heap.SameBut a s.heap h'->f7 P w h' a (iW xs k) -> ∀b,Q b { s with heap:=h' }) :
  wpAny (model P w) A (setAddHashed a (.str k tk) (hashStr w k)) Q E s:=by
 obtain⟨o,es,ep,t,ho,hex,hd,oG,jv,hb,hf,hn,wZ,cS⟩:=hS;have mF:(strKind P w).is k (.str k tk)=true:=by show Value.isStrOf k (.str k tk)=true;simp[Value.isStrOf]
 have Jc:(Value.str k tk).scannable=true:=rfl;have aon:es.size+1 < scanBound:=by omega
 unfold setAddHashed setAddHashedIn;refine eI (aa (kZ ho hd hf ?_));dsimp only;rw[byScan_of (knd:=strKind P w) Jc hb oG,ax rfl];refine aa ?_;unfold setAddByScan;refine aa (oU (aa (wpAny_setScan_of (knd:=strKind P w) (k:=k) mF ho hd hf oG ?_)));cases hr:List.findIdx? (fun e=>(strKind P w).is k e.2) es.toList with
 |some j =>
  obtain⟨hj,hpj,_⟩:=List.findIdx?_eq_some_iff_getElem.mp hr;have hk:k∈xs:=(jv k).mpr ⟨es.toList[j],kY hj,hpj⟩;refine ai (ai ?_);have e0:s={ s with heap:=s.heap }:=by cases s;rfl
  rw[e0];refine h s.heap (Heap.SameBut.refl a s.heap) ?_ _;unfold iW;rw[ax hk];exact⟨o,es,ep,t,ho,hex,hd,oG,jv,hb,hf,hn,wZ,cS⟩
 |none =>
  dsimp only
  have hk:k ∉ xs:=fun z=>by
   obtain⟨e,he,hp⟩:=(jv k).mp z;have:=List.findIdx?_eq_none_iff.mp hr e he;rw[hp]at this;cases this
  have gw:∀ (b:Bool) {bh:Shared}{Q':Unit->Shared->Prop},Q' () bh->wpAny (model P w) A (match b with|true=>rule "set.scan.the-table-gave-way" | false=>pure ()) Q' E bh:=fun b bh Q' hq=>by
   cases b
   ·exact ai hq
   ·exact oU hq
  have hV:=layNew_perm t es ((strKind P w).hash k) (.str k tk);have Av:=layNew_fits t es ((strKind P w).hash k) (.str k tk);have wW:=Z6 t es ((strKind P w).hash k) (.str k tk);generalize hL:layNew t es (hashStr w k) (.str k tk)=L;rw[show(strKind P w).hash k=hashStr w k from rfl,hL]at hV Av wW;obtain⟨gr,t1,wd,aor⟩:=L
  dsimp only at hV Av wW ⊢
  rw[Array.toList_push]at hV;have Qg:ElemsOf (strKind P w) gr.toList:=(oG.push (k:=k) mF Jc).perm hV;have aos:gr.size=es.size+1:=by rw[<-jj,hV.length_eq,dz,jj];rfl
  have O3:∀k',k'∈iW xs k ↔ ∃e∈gr.toList,(strKind P w).is k' e.2=true:=fun k'=>by
   unfold iW;rw[aj hk,ee,dH,jv k']
   constructor
   ·rintro(⟨e,he,hp⟩|rfl)
    ·exact⟨e,hV.mem_iff.mpr (nu _ he),hp⟩
    ·exact⟨_,hV.mem_iff.mpr (fH _ (dH.mpr rfl)),mF⟩
   ·rintro⟨e,he,hp⟩
    rcases ee.mp (hV.mem_iff.mp he) with he|he
    ·exact .inl ⟨e,he,hp⟩
    ·rw[dH]at he;subst he
     exact .inr ((strKind P w).inj _ k' k hp mF)
  have R3:gr.size=(iW xs k).length:=by unfold iW;rw[aj hk,dz,sR];omega
  have ik:gr.size < scanBound:=by omega
  refine aa (gw _ ?_);have tail:∀t2:SetTable,t2.fits gr.size=true->t2.led=t.led->t2.plain=false->wpAny (model P w) A (do
    storeSet a gr t2
    if (!wd && t2.tooFull)=true then do
      let r:=relayAll t2 gr (SetTable.grown gr.size)
      (match r.2.2 with|true=>rule "set.scan.the-table-gave-way" | false=>pure ())
      storeSet a r.1 r.2.1
      pure (some true)
     else pure (some true)) (fun r s'=>wpAny (model P w) A (match r with|some added=>pure added|none=>setAddHashedIn a (.str k tk) (hashStr w k) 99999) Q E s') E s:=by
   intro t2 xU kJ jA;obtain⟨oH,hS1⟩:=Nh (P:=P) (w:=w) ho hex hd Qg O3 ik xU R3 (kJ.trans wZ) jA;have R4:=Dh s.heap a (Obj.putSet gr t2);refine aa (wpAny_storeSet_of ho hd ?_ (Lh ik));split
   ·have q1:=relayAll_perm t2 gr (SetTable.grown gr.size)
    have q2:=relayAll_fits t2 gr (SetTable.grown gr.size);have q3:=WN t2 gr (SetTable.grown gr.size)
    dsimp only
    generalize relayAll t2 gr (SetTable.grown gr.size)=R at q1 q2 q3 ⊢;obtain⟨I0,t3,g2⟩:=R
    dsimp only at q1 q2 q3 ⊢
    have cJ:I0.size=gr.size:=by rw[<-jj,q1.length_eq,jj]
    have hm2:∀k',k'∈iW xs k ↔ ∃e∈I0.toList,(strKind P w).is k' e.2=true:=fun k'=>(O3 k').trans ⟨fun⟨e,he,q⟩=>⟨e,q1.mem_iff.mpr he,q⟩,fun⟨e,he,q⟩=>⟨e,q1.mem_iff.mp he,q⟩⟩;obtain⟨_,hS2⟩:=Nh (P:=P) (w:=w) oH hex rfl (Qg.perm q1) hm2 (by omega) q2 (by omega) (q3.1.trans (kJ.trans wZ)) (q3.2 jA)
    refine aa (gw _ (aa (wpAny_storeSet_of oH rfl ?_ (Lh (by omega)))))
    exact ai (ai (h _ (R4.trans (Dh _ a _)) hS2 _))
   ·exact ai (ai (h _ R4 hS1 _))
  by_cases mR:t1.plain=true
  ·rw[ax mR]
   refine aa ?_;rw[hashByValue_scannable 8 Jc];refine ai ?_;show wpAny (model P w) A (do
    storeSet a gr { t1 with plain:=false }
    _) _ E s
   exact tail { t1 with plain:=false } (SetTable.fits_plain_off Av) wW rfl
  ·rw[aj mR]
   refine aa (ai ?_);show wpAny (model P w) A (do
    storeSet a gr t1
    _) _ E s
   exact tail t1 Av wW (by simpa using mR)
end
def jZ (val:Nat->Str) (i:Nat):List Str:=((List.range i).map val).foldl iW []
theorem zF (val:Nat->Str) (i:Nat):jZ val (i+1)=iW (jZ val i) (val i):=by
 unfold jZ;rw[List.range_succ,bB,List.foldl_append];rfl
theorem Y1 (xs:List Str) (k:Str):(iW xs k).length<=xs.length+1:=by
 unfold iW;split
 ·omega
 ·rw[dz,sR];omega
theorem Z7 {xs:List Str} (h:xs.Nodup) (k:Str):(iW xs k).Nodup:=by
 unfold iW;split
 ·exact h
 ·rename_i hn
  rw[g9];exact⟨h,by simp,fun a ha b hb e=>hn (by rw[<-(dH.mp hb),<-e];exact ha)⟩
theorem Y2 {xs:List Str}{k y:Str}:y∈iW xs k ↔ y∈xs\/y=k:=by
 unfold iW;split
 ·rename_i h
  exact⟨.inl,fun z=>z.elim id fun e=>e ▸ h⟩
 ·rw[ee,dH]
theorem Ni (val:Nat->Str):∀i,(jZ val i).length<=i
 |0=>aP _
 |i+1=>by rw[zF];have:=Y1 (jZ val i) (val i);have:=Ni val i;omega
theorem N7 (val:Nat->Str):∀i,(jZ val i).Nodup
 |0=>jl
 |i+1=>by rw[zF];exact Z7 (N7 val i) _
theorem Nj (val:Nat->Str) (y:Str):∀i,y∈jZ val i ↔ ∃j,j < i/\val j=y
 |0=>⟨fun h=>(by cases h),fun⟨_,h,_⟩=>absurd h (zm _)⟩
 |i+1=>by
  rw[zF,Y2,Nj val y i]
  constructor
  ·rintro(⟨j,h,e⟩|e)
   ·exact⟨j,by omega,e⟩
   ·exact⟨i,by omega,e.symm⟩
  ·rintro⟨j,h,e⟩
   by_cases c:j=i
   ·exact .inr (by rw[<-e,c])
   ·exact .inl ⟨j,by omega,e⟩
section
variable{R:Result->Shared->Prop}{wr:List Addr}{G:Array GenState->Array GenState->Prop}{Pv:Nat->Value->Prop}{St:Nat->Shared->Prop}
theorem Y3 (W:WalksS P w A.in1 I fp wr G n Pv St) (S:Addr) (hS:S ∉ fp) (val:Nat->Str) (hv:∀i v,Pv i v -> ∃t,v = .str (val i) t) (hb:n+1 < scanBound) :
  ∀ (k i:Nat) (s:Shared),n - i=k->i<=n->St i s->f7 P w s.heap S (jZ val i)->(∀s',Moved (S::wr) G s s'->f7 P w s'.heap S (jZ val n)->R (.ok (.ret .none)) s') ->
   codeAny (model P w) A (.builtin "set.update.loop" ⟨[.ref S,.ref I],[]⟩) R s:=by
 have hw:S ∉ wr:=fun z=>hS (W.sub _ z);have up:∀b∈wr,b∈S::wr:=fun b z=>bq _ z;intro k
 induction k with
 |zero =>
  intro i s hk hi st x q;obtain rfl:i=n:=by omega
  refine mf F.entry_set_update_loop ?_;rw[nF VG _];show wpAny _ A.in1 (pyNext (.ref I) >>= _) _ _ s;refine aa (W.done s _ _ st fun s' m=>?_);show wpAny _ A.in1 (ret Value.none) _ _ s';exact ai (q s' (m.mono up) (x.keep fun o e=>m.heap S o hw e))
 |succ k ih =>
  intro i s hk hi st x q;have lt:i < n:=by omega
  refine mf F.entry_set_update_loop ?_;rw[nF VG _];show wpAny _ A.in1 (pyNext (.ref I) >>= _) _ _ s;refine aa (W.item i s _ _ lt st fun v s' hP i6 m=>?_);obtain⟨t,rfl⟩:=hv i v hP;have x':f7 P w s'.heap S (jZ val i):=x.keep fun o e=>m.heap S o hw e;show wpAny _ A.in1 (holding [Value.str (val i) t] (setAdd S (.str (val i) t)) >>= _) _ _ s';refine aa (eI ?_);unfold setAdd;have mF:(strKind P w).is (val i) (.str (val i) t)=true:=by show Value.isStrOf (val i) (.str (val i) t)=true;simp[Value.isStrOf]
  refine eI (aa ((strKind P w).pyHash (k:=val i) mF ?_));have room:(jZ val i).length+1 < scanBound:=by have:=Ni val i;omega
  refine Y0 (s:={ s' with toks:=s'.toks+1 }) x' room fun h' sb x2 b=>?_;rw[<-zF]at x2;refine ai ⟨o3 VG _,ih (i+1) _ (by omega) lt (W.frame _ s' _ _ i6 (jN _) fun c hc o e=>?_) x2 fun r8 m'' x''=>?_⟩
  ·rw[sb.2 c (fun z:c=S=>hS (by rw[<-z];exact hc))];exact e
  ·refine q r8 (Moved.trans W.gtrans ((m.mono up).then_heap (jN _) fun c o hc e=>?_) m'') x''
   rw[sb.2 c (fun z:c=S=>hc (by rw[z];exact aW))];exact e
end
abbrev nZ (w:World):Obj:={ cls:= .type "set",dict:=none,data:= .set #[] 0 (.fresh 0 0 (!w.params.followText "set-order")) }
theorem WO (a:Value) {Q₁:Value->Shared->Prop} (h:Q₁ (.ref s.heap.objs.size) { s with heap:=s.heap.push (nZ w) }) :
  codeAny (model P w) A (.call (.builtin "set.__new__") ⟨[.type "set",a],[]⟩) (wants Q₁ E) s:=by
 refine K1 ?_;show wpAny _ A.in1 (do checkBuiltinCall "set.__new__" ⟨[.type "set",a],[]⟩;again (.builtin "set.__new__" ⟨[.type "set",a],[]⟩)) _ _ s;refine aa (wpAny_of_eq (F.newCall_set_1 a) (ai ⟨o3 F.plain_set_new _,mf F.entry_set_new ?_⟩));rw[nF F.plain_set_new _];unfold Builtin.«set.__new__» Builtin.Frozenset.newClass;have ss:=sub_set_self;obtain⟨hp,g,d,tk,os⟩:=s;dsimp only
 wp_walk
 refine nH (ai ?_);dsimp only;simp only[newObj];refine aa (wpAny_alloc (ai ?_));exact ai h
structure Src (P:Program) (w:World) (T:String) (l:Addr) (ol:Obj) (n:Nat) (Pv:Nat->Value->Prop):Prop where
 cls:ol.cls = .type T
 ns:isSubtype (.type T) (.type "set")=pure false
 nf:isSubtype (.type T) (.type "frozenset")=pure false
 nd:(Value.type T==Value.type "dict")=false
 iter:∀ (A:Around) (s:Shared),A.handled=none->s.heap.get? l=some ol -> ∃ (oI:Obj) (St:Nat->Heap->Prop),
  (∀ (E:Value->Shared->Prop) (Q:Value->Shared->Prop),Q (.ref s.heap.objs.size) { s with heap:=s.heap.push oI }->wpAny (model P w) A (pyIter (.ref l)) Q E s) /\
  Walks P w A s.heap.objs.size [s.heap.objs.size,l] [s.heap.objs.size] n Pv St/\St 0 (s.heap.push oI)
theorem X3 {Pv:Nat->Value->Prop}{val:Nat->Str} (hh:A.handled=none) (C:Src P w T l ol n Pv) (hl:s.heap.get? l=some ol) (hv:∀i v,Pv i v -> ∃t,v = .str (val i) t) (hb:n+1 < scanBound)
  (h:∀ (h':Heap) (tk:Nat),f7 P w h' s.heap.objs.size (jZ val n)->(∀b o,b < s.heap.objs.size->s.heap.get? b=some o->h'.get? b=some o)->Q (.ref s.heap.objs.size) { s with heap:=h',toks:=tk }) :
  wpAny (model P w) A (call (.type "set") [.ref l]) Q E s:=by
 obtain⟨c0,tl0,aot⟩:=sT.mro;have aoo:=sT.made;have aou:=sT.sub;refine qH (K1 ?_);show wpAny _ _ (callAny (.type "set") _) _ _ _;refine ai ⟨Vs _ (by decide +kernel),mf F.entry_type_call ?_⟩;rw[Around.under_plain (weight_type_call_type "set" [.ref l] []) rfl]
 have f1:=sT.notType;have f2:=sT.canCreate;have f3:=F.typeCall_set_1 (.ref l)
 repeat (any_goals (first|assumption|wp_step))
 refine sN (WO (.ref l) (E:=E) (Q₁:=fun obj bh=>obj = .ref s.heap.objs.size/\bh={ s with heap:=s.heap.push (nZ w) }) ⟨rfl,rfl⟩) fun r bh hr=>?_;cases r with
 |error e=>exact hr
 |ok fl =>
  cases fl with
  |ret obj =>
   obtain⟨rfl,rfl⟩:=hr;have gS:(s.heap.push (nZ w)).get? s.heap.objs.size=some (nZ w):=cp _ rfl;have tS:Shared.TypeIs { s with heap:=s.heap.push (nZ w) } (.ref s.heap.objs.size) "set" :=⟨_,gS,rfl⟩;have i1:=sT.init.lookup;have i2:=sT.init.bind (.ref s.heap.objs.size)
   repeat (any_goals (first|assumption|wp_step))
   refine sN (K3 (R:=wants (fun r lB=>r = .none /\ ∃h' tk,lB={ s with heap:=h',toks:=tk }/\f7 P w h' s.heap.objs.size (jZ val n)/\(∀b o,b < s.heap.objs.size->s.heap.get? b=some o->h'.get? b=some o)) E) sT.init.plain F.entry_set_init (check_set_init_1 tS ?_)) fun adL lB Fh=>?_
   ·have mS:(s.heap.push (nZ w)).get? l=some ol:=a8 _ hl
    obtain⟨adM,aop,aoq,aom⟩:=ol;have adN:adM = .type T:=C.cls;subst adN;have ns:=C.ns;have nf:=C.nf;have nd:=C.nd;unfold Builtin.«set.__init__» noKeywords Builtin.Frozenset.updateFrom;generalize hPI:pyIter=PI
    wp_walk
    subst hPI;obtain⟨oI,St,it,W,st⟩:=C.iter A.in1.in1.in1 { s with heap:=s.heap.push (nZ w) } (by simp[hh]) mS
    refine wpAny_of_in1 (it _ _ ?_);refine aa (VH ?_);have lS:l < s.heap.objs.size:=a9 hl;have nS:s.heap.objs.size ∉ [(s.heap.push (nZ w)).objs.size,l]:=by
     rw[l0];simp only[bj,dH,jm,jn,not_or];exact⟨bx (qG _),oV lS⟩
    refine Y3 W.toS s.heap.objs.size nS val hv hb (n - 0) 0 _ (by omega) (bf _) st (YZ (a8 _ gS)) ?_
    intro s' m x';obtain⟨h',g',d',oE,xF⟩:=s';have e1:g'=s.gens:=m.gens;have e2:d'=s.drawn:=m.drawn;have e3:xF=s.os:=m.os;subst e1;subst e2;subst e3;show wpAny _ _ _ _ _ _;refine ai ?_;show wpAny _ _ (ret Value.none) _ _ _;refine ai ⟨rfl,h',oE,rfl,x',fun b o hb e=>?_⟩;have b1:b≠s.heap.objs.size:=bx hb;have b2:b≠(s.heap.push (nZ w)).objs.size:=by rw[l0];exact bx (qK hb)
    exact m.heap b o (by simp only[bj,dH,jm,jn,not_or];exact⟨b1,b2⟩) (a8 _ (a8 _ e))
   ·cases adL with
    |error e=>exact Fh
    |ok ab3 =>
     cases ab3 with
     |ret r =>
      obtain⟨rfl,h',tk,rfl,x',k'⟩:=Fh
      repeat (any_goals (first|assumption|wp_step))
      exact h _ _ x' k'
     |_=>exact Fh.elim
  |_=>exact hr.elim
theorem src_list (cl:ol.cls = .type "list") (dt:∃n,ol.data = .seq items n):Src P w "list" l ol items.size (fun i v=>items[i]? = some v) where
 cls:=cl
 ns:=F.sub_list_set
 nf:=F.sub_list_frozenset
 nd:=by decide
 iter:=fun A s hh hl=>by
  have il:s.heap.IsList l items:=⟨ol,hl,cl,dt⟩;have lt:=a9 hl;exact⟨_,_,fun E Q q=>zd il q,Walks.list hh _ l (bx lt) items,⟨_,cp _ rfl,rfl,rfl⟩,il.push _⟩
theorem Z8 (cl:ol.cls = .type "tuple") (dt:∃n,ol.data = .seq items n):Src P w "tuple" l ol items.size (fun i v=>items[i]? = some v) where
 cls:=cl
 ns:=F.sub_tuple_set
 nf:=F.sub_tuple_frozenset
 nd:=by decide
 iter:=fun A s hh hl=>by
  have il:s.heap.IsTuple l items:=⟨ol,hl,cl,dt⟩;have lt:=a9 hl;exact⟨_,_,fun E Q q=>wpAny_pyIter_tuple il q,Walks.tuple hh _ l (bx lt) items,⟨_,cp _ rfl,rfl,rfl⟩,il.push _⟩
theorem tx:Slot "set_iterator" "__next__" "set_iterator.__next__" :=
 Slot.of (owner:= "set_iterator") (n:= "__next__") (by rw[VA,VB];kernel_rfl) (by decide +kernel) (by decide +kernel) (by decide +kernel) (by first|exact .inl (by decide +kernel)|exact .inr (by decide +kernel)) (by rw[VI];kernel_rfl)
theorem Wm:entryFor table "set_iterator.__next__" = some Builtin.«set_iterator.__next__» :=entryFor_of_tree (by kernel_rfl)
theorem Nk:Manifest.owners.lookup (String.ofList "rotareti_tes".toList.reverse)=some Manifest.sig_set_iterator:=by kernel_rfl
theorem Wv (a:Value):argsOk "set_iterator.__next__" ⟨[a],[]⟩:=by
 unfold argsOk;rw[signature?_of (id:= "set_iterator.__next__") (n:= ['_','_','t','x','e','n','_','_']) (o:= "rotareti_tes".toList) (by kernel_rfl) Nk];kernel_rfl
theorem zt:Slot "set_iterator" "__iter__" "set_iterator.__iter__" :=
 Slot.of (owner:= "set_iterator") (n:= "__iter__") (by rw[VA,VB];kernel_rfl) (by decide +kernel) (by decide +kernel) (by decide +kernel) (by first|exact .inl (by decide +kernel)|exact .inr (by decide +kernel)) (by rw[VI];kernel_rfl)
theorem Lz:entryFor table "set_iterator.__iter__" = some Builtin.«dict_keyiterator.__iter__» :=entryFor_alias (id':= "dict_keyiterator.__iter__") (by kernel_rfl) rfl (by decide +kernel) (by kernel_rfl)
theorem LC (a:Value):argsOk "set_iterator.__iter__" ⟨[a],[]⟩:=by
 unfold argsOk;rw[signature?_of (id:= "set_iterator.__iter__") (n:= ['_','_','r','e','t','i','_','_']) (o:= "rotareti_tes".toList) (by kernel_rfl) Nk];kernel_rfl
theorem Ww:entryFor table "set.__iter__" = some Builtin.«frozenset.__iter__» :=entryFor_alias (id':= "frozenset.__iter__") (by kernel_rfl) rfl (by decide +kernel) (by kernel_rfl)
abbrev lN (first:Value) (i:Nat) (a:Addr) (n ep:Nat):Obj:={ cls:= .type "set_iterator",dict:=none,data:= .fields #[first,.int i 0,.ref a,.int n 0,.int ep 0],slots:= #[] }
section
variable{es:Array (Int×Value)}{t:SetTable}
theorem zK {first:Value}{Q:Option Value->Shared->Prop} (hit:s.heap.get? I=some (lN first i a n ep)) (ho:s.heap.get? a=some o) (hd:o.data = .set es ep t) (hf:t.fits es.size=true) (hn:es.size=n)
  (body:wpAny (model P w) A.in1 (do
   if let .int slot _:=first then
    match <- setNext a slot.toNat ((i:Int)).toNat ((ep:Int)).toNat with
    |some (x,next) =>
     setField (.ref I) 0 (rawInt next)
     setField (.ref I) 1 (rawInt ((i:Int)+1))
     ret x
    |none=>setField (.ref I) 2 .none;raiseNew (<- newExc (.type "StopIteration") [])
   else
    let some places <- seqItems? first|unsupported "internal:set_iterator"
    match places[((i:Int)).toNat]? with
    |some (.int place _) =>
     let x <- setNextDrawn a place.toNat ((ep:Int)).toNat
     setField (.ref I) 1 (rawInt ((i:Int)+1))
     ret x
    |some _=>unsupported "internal:set_iterator"
    |none=>setField (.ref I) 0 (rawInt 0);setField (.ref I) 2 .none;raiseNew (<- newExc (.type "StopIteration") []))
   (fun fin s'=>∃r,fin = .done (.ret r)/\Q (some r) s') (fun e s'=>wpAny (model P w) A (do if <- isInstance e (.type "StopIteration") then pure none else throw e) Q E s') s):wpAny (model P w) A (pyNext (.ref I)) Q E s:=by
 have hT:s.TypeIs (.ref I) "set_iterator" :=⟨_,hit,rfl⟩;unfold pyNext;refine aa (Df (C9 (name:=Str.ofString "__next__") hT tx (md tx hT Wm ?_ (Wv _))));unfold Builtin.«set_iterator.__next__»;refine aa (ai ?_)
 dsimp only
 refine aa (VJ hit rfl ?_)
 dsimp only
 refine aa ?_;unfold setEntries;refine aa (kZ ho hd hf (ai ?_))
 dsimp only
 rw[aj (by rw[hn];simp)]
 refine lZ body (fun fin s' h=>?_) fun e s' h=>?_
 ·obtain⟨r,rfl,q⟩:=h
  exact⟨r,rfl,ai q⟩
 ·exact h
theorem Nl {Q:Option Value->Shared->Prop} (hh:A.handled=none) (q:∀h',(∀b ob,s.heap.get? b=some ob->h'.get? b=some ob)->Q none { s with heap:=h' }) :
  wpAny (model P w) A.in1 (newExc (.type "StopIteration") [] >>= fun e=>(raiseNew e:Sem PySem.Fin)) (fun fin s'=>∃r,fin = .done (.ret r)/\Q (some r) s') (fun e s'=>wpAny (model P w) A (do if <- isInstance e (.type "StopIteration") then pure none else throw e) Q E s') s:=by
 refine aa ?_;simp only[newExc,newTuple];refine aa (iP ?_ (by size_fits))
 refine aa (m:=firstArgMember _ _) (wpAny_of_eq (a:=Value.none) (by first|rfl|(simp only[firstArgMember];rfl)) (iP ?_ (by size_fits)))
 simp only[raiseNew];refine aa (wpAny_handled ?_);rw[show A.in1.handled=none from hh];refine aa (ai (Li ?_));refine aa (VL (T:= "StopIteration") (b:=true) (show Shared.TypeIs _ _ _ from⟨_,cp _ rfl,rfl⟩) isSubtype_stop ?_);exact ai (q _ fun b ob e=>a8 _ (a8 _ e))
theorem Wn {slot nx:Nat}{x:Value}{Q:Option Value->Shared->Prop} (hit:s.heap.get? I=some (lN (.int slot 0) i a n ep)) (ho:s.heap.get? a=some o) (hd:o.data = .set es ep t) (hf:t.fits es.size=true) (hn:es.size=n)
  (Jd:∀ (E':Value->Shared->Prop) (Q':Option (Value×Nat)->Shared->Prop),Q' (some (x,nx)) s->wpAny (model P w) A.in1 (setNext a slot i ep) Q' E' s)
  (q:∀h',h'.get? I=some (lN (.int nx 0) (i+1) a n ep)->Heap.SameBut I s.heap h'->Q (some x) { s with heap:=h' }):wpAny (model P w) A (pyNext (.ref I)) Q E s:=by
 refine zK hit ho hd hf hn ?_;simp only[oX];refine aa (Jd _ _ ?_);refine aa (nI hit (by simp) fun h1 g1 s1=>?_)
 refine aa (nI g1 (by simp) fun h2 g2 s2=>?_)
 exact ai ⟨x,rfl,q h2 (by rw[g2];simp[rawInt]) (s1.trans s2)⟩
theorem Wx {slot:Nat}{Q:Option Value->Shared->Prop} (hh:A.handled=none) (hit:s.heap.get? I=some (lN (.int slot 0) i a n ep)) (ho:s.heap.get? a=some o) (hd:o.data = .set es ep t) (hf:t.fits es.size=true) (hn:es.size=n)
  (Jd:∀ (E':Value->Shared->Prop) (Q':Option (Value×Nat)->Shared->Prop),Q' none s->wpAny (model P w) A.in1 (setNext a slot i ep) Q' E' s)
  (q:∀h',(∀b ob,b≠I->s.heap.get? b=some ob->h'.get? b=some ob)->Q none { s with heap:=h' }):wpAny (model P w) A (pyNext (.ref I)) Q E s:=by
 refine zK hit ho hd hf hn ?_;simp only[oX];refine aa (Jd _ _ ?_);refine aa (nI hit (by simp) fun h1 g1 s1=>?_)
 exact Nl hh fun h2 k2=>q h2 fun b ob nb e=>k2 b ob (by rw[s1.2 b nb];exact e)
theorem Wo {pt:Addr}{ps:List Nat}{pl:Nat}{x:Value}{Q:Option Value->Shared->Prop} (hit:s.heap.get? I=some (lN (.ref pt) i a n ep)) (ho:s.heap.get? a=some o) (hd:o.data = .set es ep t) (hf:t.fits es.size=true) (hn:es.size=n)
  (hp:∃op c,s.heap.get? pt=some op/\op.data = .seq (ps.map fun(j:Nat)=>rawInt j).toArray c) (hi:ps[i]? = some pl) (hx:es[pl]? = some (z,x))
  (q:∀h',h'.get? I=some (lN (.ref pt) (i+1) a n ep)->Heap.SameBut I s.heap h'->Q (some x) { s with heap:=h' }):wpAny (model P w) A (pyNext (.ref I)) Q E s:=by
 refine zK hit ho hd hf hn ?_;obtain⟨op,c,oA,uU⟩:=hp
 dsimp only
 simp only[oX];refine aa ?_;unfold seqItems?;refine aa (zb oA ?_);rw[uU];refine ai ?_
 dsimp only
 have e1:(ps.map fun(j:Nat)=>rawInt j).toArray[i]? = some (rawInt pl):=by simp[hi]
 rw[e1];show wpAny _ _ (setNextDrawn a ((pl:Int)).toNat ep >>= _) _ _ s;rw[oX];unfold setNextDrawn;refine aa (aa (kZ ho hd hf ?_))
 dsimp only
 rw[aj (by simp),hx]
 refine ai ?_;refine aa (nI hit (by simp) fun h2 g2 s2=>?_)
 exact ai ⟨x,rfl,q h2 (by rw[g2];simp[rawInt]) s2⟩
theorem Wy {pt:Addr}{ps:List Nat}{Q:Option Value->Shared->Prop} (hh:A.handled=none) (hit:s.heap.get? I=some (lN (.ref pt) i a n ep)) (ho:s.heap.get? a=some o) (hd:o.data = .set es ep t) (hf:t.fits es.size=true) (hn:es.size=n)
  (hp:∃op c,s.heap.get? pt=some op/\op.data = .seq (ps.map fun(j:Nat)=>rawInt j).toArray c) (hi:ps.length<=i)
  (q:∀h',(∀b ob,b≠I->s.heap.get? b=some ob->h'.get? b=some ob)->Q none { s with heap:=h' }):wpAny (model P w) A (pyNext (.ref I)) Q E s:=by
 refine zK hit ho hd hf hn ?_;obtain⟨op,c,oA,uU⟩:=hp
 dsimp only
 simp only[oX];refine aa ?_;unfold seqItems?;refine aa (zb oA ?_);rw[uU];refine ai ?_
 dsimp only
 have e1:(ps.map fun(j:Nat)=>rawInt j).toArray[i]? = none:=by simp;omega
 rw[e1];refine aa (nI hit (by simp) fun h1 g1 s1=>?_)
 refine aa (nI g1 (by simp) fun h2 g2 s2=>?_)
 exact Nl hh fun h3 k3=>q h3 fun b ob nb e=>k3 b ob (by rw[s2.2 b nb,s1.2 b nb];exact e)
end
theorem MA {α:Type} (next:Nat->Nat):∀ (fuel k:Nat) (left:List α) (out:Array α),left.length=fuel->(pickOrder.go next fuel k left out).toList.Perm (out.toList++left)
 |0,k,left,out,h=>by
  have:left = []:=vq h;subst this;unfold pickOrder.go;simp
 |fuel+1,k,left,out,h=>by
  have aV:next k % left.length < left.length:=Nat.mod_lt _ (by omega)
  unfold pickOrder.go;rw[b4 aV]
  dsimp only
  refine(MA next fuel (k+1) _ _ (by rw[anQ,ax aV];omega)).trans ?_
  rw[Array.toList_push,KZ];refine anR _ ?_;generalize next k % left.length=j at aV;have key:∀ (l:List α) (j:Nat) (h:j < l.length),(l[j]::l.eraseIdx j).Perm l:=by
   intro l
   induction l with
   |nil=>intro j h;exact absurd h (zm _)
   |cons x l ih =>
    intro j h;cases j with
    |zero=>exact qL _
    |succ j=>exact(List.Perm.swap _ _ _).trans ((ih j (Lj h)).cons x)
  exact key left j aV
section
variable{xs:List Str}
theorem N8 {α:Type}:∀ (m:Nat) (l:List α) {s:Shared}{Q:List α->Shared->Prop},l.length=m->(∀ps d,ps.Perm l->Q ps { s with drawn:=d })->wpAny (model P w) A (drawOrder m l) Q E s
 |0,l,s,Q,h,q=>by
  have:l = []:=vq h;subst this;unfold drawOrder;exact ai (q [] s.drawn (qL _))
 |m+1,[],s,Q,h,q=>by simp at h
 |m+1,x::l,s,Q,h,q=>by
  unfold drawOrder;refine aa ?_;have ch:∀ {Q':Nat->Shared->Prop}{s:Shared},(∀i d,i < (x::l).length->Q' i { s with drawn:=d })->wpAny (model P w) A (choose .order (x::l).length) Q' E s:=fun {Q' s} q'=>by
   intro Γ p hΓ;exact⟨by simp,q' _ _ (Nat.mod_lt _ (by simp))⟩
  refine ch fun i d hi=>?_;rw[b4 hi]
  dsimp only
  refine aa (N8 m _ (by rw[anQ,ax hi];omega) fun ps d' hp=>ai ?_)
  refine q _ _ ((hp.cons _).trans ?_);have key:∀ (l:List α) (j:Nat) (h:j < l.length),(l[j]::l.eraseIdx j).Perm l:=by
   intro l
   induction l with
   |nil=>intro j h;exact absurd h (zm _)
   |cons x l ih =>
    intro j h;cases j with
    |zero=>exact qL _
    |succ j=>exact(List.Perm.swap _ _ _).trans ((ih j (Lj h)).cons x)
  exact key _ i hi
theorem Xo {es:List (Int×Value)} (h:ElemsOf (strKind P w) es):∃ks:List Str,StrsAre (es.map (·.2)) ks /\ ∀k,k∈ks ↔ ∃e∈es,(strKind P w).is k e.2=true:=by
 induction es with
 |nil=>exact⟨[],.nil,fun k=>(by simp)⟩
 |cons e es ih =>
  obtain⟨ks,h1,h2⟩:=ih h.tail;obtain⟨⟨k,hk,_⟩,_⟩:=h.head;obtain⟨t,et⟩:=U6 hk;refine⟨k::ks,?_,fun y=>?_⟩
  ·rw[fX,et];exact .cons k t h1
  ·rw[bj,h2 y]
   constructor
   ·rintro(rfl|⟨e',he,q⟩)
    ·exact⟨e,aW,hk⟩
    ·exact⟨e',bq _ he,q⟩
   ·rintro⟨e',he,q⟩
    rcases bj.mp he with rfl|he
    ·exact .inl ((strKind P w).inj _ _ _ q hk)
    ·exact .inr ⟨e',he,q⟩
theorem MD {vs:List Value} (h:StrsAre us ks) (p:vs.Perm us):∃ys,StrsAre vs ys/\ys.Perm ks:=by
 induction p generalizing ks with
 |nil=>exact⟨ks,h,qL _⟩
 |cons x _ ih =>
  cases h with
  |cons y t r=>obtain⟨ys,h1,h2⟩:=ih r;exact⟨y::ys,.cons y t h1,h2.cons y⟩
 |swap x y l =>
  cases h with
  |cons k1 t1 r1 =>
   cases r1 with
   |cons k2 t2 r2=>exact⟨k2::k1::_,.cons k2 t2 (.cons k1 t1 r2),List.Perm.swap _ _ _⟩
 |trans _ _ IY IZ =>
  obtain⟨ys,h1,h2⟩:=IZ h;obtain⟨zs,h3,h4⟩:=IY h1;exact⟨zs,h3,h4.trans h2⟩
theorem tQ {vs:List Value}{ys:List Str} (h:StrsAre vs ys):vs.length=ys.length:=by
 induction h with
 |nil=>rfl
 |cons _ _ _ ih=>rw[d7,d7,ih]
theorem Wz {a b:List Str} (nd:a.Nodup) (hl:b.length=a.length) (h:∀x∈a,x∈b):b.Perm a:=by
 induction a generalizing b with
 |nil=>have:b = []:=vq hl;subst this;exact qL _
 |cons x a ih =>
  rw[g8]at nd;have hx:=h x aW;have p1:=List.perm_cons_erase hx;have kJ:(b.erase x).length=a.length:=by rw[Vu hx,hl];rfl
  have h2:∀y∈a,y∈b.erase x:=fun y hy=>(Vw (show y≠x from fun e=>nd.1 (by rw[<-e];exact hy))).mpr (h y (bq _ hy))
  exact p1.trans ((ih nd.2 kJ h2).cons x)
structure F1 (P:Program) (w:World) (a:Addr) (vs:List Value) (I:Addr) (fp:List Addr) (h:Heap):Prop where
 go:∃St:Nat->Heap->Prop,(∀A:Around,A.handled=none->Walks P w A I fp [I] vs.length (fun i v=>vs[i]? = some v) St)/\St 0 h
theorem Nn {es:Array (Int×Value)}{t:SetTable} (slot:Nat->Nat) {vs:List Value} (bY:a≠I) (hd:o.data = .set es ep t) (hf:t.fits es.size=true) (hn:es.size=vs.length) (h0:slot 0=0) (ho:h.get? a=some o) (hi:h.get? I=some (lN (.int 0 0) 0 a vs.length ep))
  (item:∀ (A:Around) (s:Shared) (i:Nat) (v:Value) (E':Value->Shared->Prop) (Q':Option (Value×Nat)->Shared->Prop),s.heap.get? a=some o->vs[i]? = some v->Q' (some (v,slot (i+1))) s->wpAny (model P w) A (setNext a (slot i) i ep) Q' E' s)
  (done:∀ (A:Around) (s:Shared) (E':Value->Shared->Prop) (Q':Option (Value×Nat)->Shared->Prop),s.heap.get? a=some o->Q' none s->wpAny (model P w) A (setNext a (slot vs.length) vs.length ep) Q' E' s):F1 P w a vs I [I,a] h:=by
 refine⟨fun i h=>h.get? a=some o/\h.get? I=some (lN (.int (slot i) 0) i a vs.length ep),fun A hh=>⟨fun b hb=>(by simp at hb;simp[hb]),fun i h h' st k=>⟨k a (by simp) _ st.1,k I (by simp) _ st.2⟩,fun i s Q E hi st q=>?_,fun s Q E st q=>?_,fun i s Q E st q=>?_⟩,ho,by rw[h0];exact hi⟩
 ·have hv:vs[i]? = some vs[i]:=b4 hi
  refine Wn st.2 st.1 hd hf hn (fun E' Q' q'=>item _ _ i _ E' Q' st.1 hv q') fun h' g sb=>?_;exact q _ h' s.toks hv ⟨by rw[sb.2 a bY];exact st.1,g⟩ fun b ob hb e=>by rw[sb.2 b (fun z=>hb (by simp[z]))];exact e
 ·exact Wx hh st.2 st.1 hd hf hn (fun E' Q' q'=>done _ _ E' Q' st.1 q') fun h' k=>q h' s.toks fun b ob hb e=>k b ob (fun z=>hb (by simp[z])) e
 ·have hT:s.TypeIs (.ref I) "set_iterator" :=⟨_,st.2,rfl⟩
  refine Lk hT zt (md zt hT Lz ?_ (LC _));show wpAny _ _ (ret (.ref I)) _ _ s;exact ai ⟨_,rfl,"set_iterator",_,hT,tx.lookup,q⟩
theorem Y4 {es:Array (Int×Value)}{t:SetTable}{pt:Addr}{ps:List Nat}{vs:List Value} (bY:a≠I) (hnp:pt≠I) (hd:o.data = .set es ep t) (hf:t.fits es.size=true) (hn:es.size=vs.length) (cS:ps.length=vs.length) (ho:h.get? a=some o) (hi:h.get? I=some (lN (.ref pt) 0 a vs.length ep))
  {op:Obj}{c:Nat} (hp:h.get? pt=some op) (uU:op.data = .seq (ps.map fun(j:Nat)=>rawInt j).toArray c) (item:∀ (i:Nat) (v:Value),vs[i]? = some v -> ∃pl z,ps[i]? = some pl/\es[pl]? = some (z,v)):F1 P w a vs I [I,a,pt] h:=by
 refine⟨fun i h=>h.get? a=some o/\h.get? pt=some op/\h.get? I=some (lN (.ref pt) i a vs.length ep),fun A hh=>⟨fun b hb=>(by simp at hb;simp[hb]),fun i h h' st k=>⟨k a (by simp) _ st.1,k pt (by simp) _ st.2.1,k I (by simp) _ st.2.2⟩,fun i s Q E hi st q=>?_,fun s Q E st q=>?_,fun i s Q E st q=>?_⟩,ho,hp,hi⟩
 ·have hv:vs[i]? = some vs[i]:=b4 hi
  obtain⟨pl,z,h1,h2⟩:=item i _ hv;refine Wo st.2.2 st.1 hd hf hn ⟨op,c,st.2.1,uU⟩ h1 h2 fun h' g sb=>?_;exact q _ h' s.toks hv ⟨by rw[sb.2 a bY];exact st.1,by rw[sb.2 pt hnp];exact st.2.1,g⟩ fun b ob hb e=>by rw[sb.2 b (fun z=>hb (by simp[z]))];exact e
 ·exact Wy hh st.2.2 st.1 hd hf hn ⟨op,c,st.2.1,uU⟩ (by omega) fun h' k=>q h' s.toks fun b ob hb e=>k b ob (fun z=>hb (by simp[z])) e
 ·have hT:s.TypeIs (.ref I) "set_iterator" :=⟨_,st.2.2,rfl⟩
  refine Lk hT zt (md zt hT Lz ?_ (LC _));show wpAny _ _ (ret (.ref I)) _ _ s;exact ai ⟨_,rfl,"set_iterator",_,hT,tx.lookup,q⟩
end
theorem MH (j k:Nat):SetTable.below #[j] k=if j < k then 1 else 0:=by
 unfold SetTable.below;show SetTable.below.go #[j] k 1 0 1=_;unfold SetTable.below.go
 by_cases h:j < k
 ·simp[h,SetTable.below.go]
 ·simp[h,SetTable.below.go]
theorem Xp (k:Nat):SetTable.below #[] k=0:=by unfold SetTable.below;rfl
section
variable{xs:List Str}
theorem Y5 (hS:f7 P w s.heap a xs) (nd:xs.Nodup)
  (q:∀ (h':Heap) (d':Drawn) (I:Addr) (fp:List Addr) (vs:List Value) (ys:List Str),F1 P w a vs I fp h'->StrsAre vs ys->ys.Perm xs->(∀b∈fp,b=a\/s.heap.objs.size<=b)->I∈fp->(∀b∈fp,b < h'.objs.size)->s.heap.objs.size<=I->(∀b ob,s.heap.get? b=some ob->h'.get? b=some ob)->Q (.ref I) { s with heap:=h',drawn:=d' }) :
  wpAny (model P w) A (pyIter (.ref a)) Q E s:=by
 have hT:=hS.typeIs;obtain⟨o,es,ep,t,ho,hex,hd,oG,jv,hb,hf,hn,wZ,cS⟩:=hS;have xW:=a9 ho;obtain⟨ks,k1,k2⟩:=Xo oG;have kl:ks.length=xs.length:=by have:=tQ k1;rw[aJ,jj]at this;omega
 have kp:ks.Perm xs:=Wz nd kl fun x hx=>(k2 x).mpr ((jv x).mp hx);refine Lk hT F.slot_set_iter (md F.slot_set_iter hT Ww ?_ (F.args_set_iter_1 _));unfold Builtin.«frozenset.__iter__» Builtin.Frozenset.slot0 Builtin.Frozenset.sizeOf setEntries setDrawn setsByText;refine aa (aa (ai (ai ?_)));refine aa (aa (aa (kZ ho hd hf (ai (ai ?_)))))
 dsimp only
 refine aa (aa (kZ ho hd hf ?_));dsimp only;refine aa (aa (nH (ai (ai ?_))));show wpAny _ _ (if (!w.params.followText "set-order" && (!t.plain && decide (es.size > 1)))=true then _ else _) _ _ s
 by_cases big:(!w.params.followText "set-order" && (!t.plain && decide (es.size > 1)))=true
 ·
  rw[ax big];refine aa (N8 es.size (List.range es.size) (by simp) fun ps d si=>?_)
  have pl:ps.length=es.size:=by rw[si.length_eq];simp
  refine aa (iP ?_ (by show(ps.map _).toArray.size<=sizeLine;rw[b8,aJ,pl];exact Lh hb))
  refine aa ?_;unfold setEpoch;refine aa (kZ (a8 _ ho) hd hf (ai ?_))
  dsimp only
  refine aa (iP (ai ⟨_,rfl,"set_iterator",_,⟨_,cp _ rfl,rfl⟩,tx.lookup,?_⟩));have B6:∀p∈ps,p < es.size:=fun p hp=>oT.mp (si.mem_iff.mp hp)
  let vs:List Value:=ps.map fun p=>(es.toList.map (·.2)).getD p .none
  have pv:vs.Perm (es.toList.map (·.2)):=by
   have e1:(List.range es.size).map (fun p=>(es.toList.map (·.2)).getD p .none)=es.toList.map (·.2):=by
    apply VE
    ·simp
    ·intro n h1 h2
     have:n < es.size:=by simpa using h1
     simp[this]
   rw[<-e1];exact si.map _
  obtain⟨ys,y1,y2⟩:=MD k1 pv;have vl:vs.length=es.size:=by show(ps.map _).length=_;rw[aJ,pl]
  have gI:(s.heap.push { cls:= .type "tuple",data:= .seq (ps.map fun(i:Nat)=>rawInt i).toArray }).objs.size=s.heap.objs.size+1:=l0 ..;refine q _ d _ [_,a,s.heap.objs.size] vs ys (Y4 (o:=o) (op:={ cls:= .type "tuple",data:= .seq (ps.map fun(i:Nat)=>rawInt i).toArray }) (ps:=ps) (by rw[gI];exact bx (qK xW)) (by rw[gI];exact bx (qG _)) hd hf vl.symm (by rw[vl,pl]) (a8 _ (a8 _ ho)) ?_ (a8 _ (cp _ rfl)) rfl ?_) y1 (y2.trans kp) ?_ aW ?_ (by rw[gI];omega) fun b ob e=>a8 _ (a8 _ e)
  ·rw[cp _ rfl,vl];rfl
  ·intro i v hv
   have BO:(ps.map fun p=>(es.toList.map (·.2)).getD p .none)[i]? = some v:=hv;rw[jk]at BO;obtain⟨p,hp,ev⟩:=kB.mp BO;have aV:=B6 p (kX hp);refine⟨p,es[p].1,hp,?_⟩;rw[vt aV]
   congr 1
   rw[<-ev];simp[aV]
  ·intro b jB
   simp only[bj,jm,jn]at jB;rcases jB with rfl|rfl|rfl
   ·exact .inr (by rw[gI];omega)
   ·exact .inl rfl
   ·exact .inr (aP _)
  ·intro b jB
   simp only[bj,jm,jn]at jB;rw[l0,gI];rcases jB with z|z|z
   ·rw[z,gI];exact qG _
   ·rw[z];exact qK (qK xW)
   ·rw[z];exact qK (qG _)
 ·rw[aj big]
  refine aa (ai ?_);refine aa ?_;unfold setEpoch;refine aa (kZ ho hd hf (ai ?_))
  dsimp only
  refine aa (iP (ai ⟨_,rfl,"set_iterator",_,⟨_,cp _ rfl,rfl⟩,tx.lookup,?_⟩));have R5:∀b ∈ [s.heap.objs.size,a],b=a\/s.heap.objs.size<=b:=fun b jB=>by
   simp only[bj,jm,jn]at jB;rcases jB with rfl|rfl
   ·exact .inr (aP _)
   ·exact .inl rfl
  have R6:∀ (oo:Obj),∀b ∈ [s.heap.objs.size,a],b < (s.heap.push oo).objs.size:=fun oo b jB=>by
   simp only[bj,jm,jn]at jB;rw[l0];rcases jB with z|z
   ·rw[z];exact qG _
   ·rw[z];exact qK xW
  cases bt:w.params.followText "set-order" with
  |true =>
   have sv:∀next:Nat->Nat,((pickOrder next es).toList.map (·.2)).Perm (es.toList.map (·.2)):=fun next=>by
    unfold pickOrder;have:=MA next es.size 0 es.toList #[] (by simp)
    exact(by simpa using this:(pickOrder.go next es.size 0 es.toList #[]).toList.Perm es.toList).map _
   obtain⟨ys,y1,y2⟩:=MD k1 (sv (w.params.setOrder a ep));have vl:=(sv (w.params.setOrder a ep)).length_eq;rw[aJ,jj,aJ,jj]at vl;refine q _ s.drawn _ [_,a] ((pickOrder (w.params.setOrder a ep) es).toList.map (·.2)) ys (Nn (o:=o) (fun _=>0) (bx xW) hd hf (by rw[aJ,jj,vl]) rfl (a8 _ ho) ?_ ?_ ?_) y1 (y2.trans kp) R5 aW (R6 _) (aP _) fun b ob e=>a8 _ e
   ·rw[cp _ rfl,aJ,jj,vl];rfl
   ·intro A s i v E' Q' ha hv hq
    unfold setNext setsByText;refine aa (kZ ha hd hf ?_);dsimp only;refine aa (aa (nH (ai ?_)));show wpAny _ _ (if w.params.followText "set-order" = true then _ else _) _ _ _;rw[ax bt,aj (by simp)]
    unfold setWalk setsByText;refine aa (aa (kZ ha hd hf ?_));dsimp only;refine aa (aa (nH (ai ?_)));show wpAny _ _ (if w.params.followText "set-order" = true then _ else _) _ _ _;rw[ax bt];refine aa (nH (ai (ai ?_)));show Q' (((pickOrder (w.params.setOrder a ep) es)[i]?).map fun e=>(e.2,0)) s;rw[jk,zh]at hv;obtain⟨e,he,ev⟩:=kB.mp hv;rw[he];show Q' (some (e.2,0)) s;rw[ev];exact hq
   ·intro A s E' Q' ha hq
    unfold setNext setsByText;refine aa (kZ ha hd hf ?_);dsimp only;refine aa (aa (nH (ai ?_)));show wpAny _ _ (if w.params.followText "set-order" = true then _ else _) _ _ _;rw[ax bt,aj (by simp)]
    unfold setWalk setsByText;refine aa (aa (kZ ha hd hf ?_));dsimp only;refine aa (aa (nH (ai ?_)));show wpAny _ _ (if w.params.followText "set-order" = true then _ else _) _ _ _;rw[ax bt];refine aa (nH (ai (ai ?_)));show Q' (((pickOrder (w.params.setOrder a ep) es)[((pickOrder (w.params.setOrder a ep) es).toList.map (·.2)).length]?).map fun e=>(e.2,0)) s;rw[Dj (by simp)]
    exact hq
  |false =>
   have aX:es.size<=1:=by
    rw[bt]at big
    by_cases z:es.size<=1
    ·exact z
    ·have hp:=cS (by omega)
     rw[hp]at big;exact absurd (by simp;omega) big
   have led:t.led=true:=by rw[wZ,bt];rfl
   have xK:t.place.size=es.size:=by
    have:=hf;simp only[SetTable.fits,nE,eV,decide_eq_true_eq]at this;exact this.1
   refine q _ s.drawn _ [_,a] (es.toList.map (·.2)) ks (Nn (o:=o) (fun i=>if i=0 then 0 else t.place.getD 0 0+1) (bx xW) hd hf (by rw[aJ,jj]) rfl (a8 _ ho) ?_ ?_ ?_) k1 kp R5 aW (R6 _) (aP _) fun b ob e=>a8 _ e
   ·rw[cp _ rfl,aJ,jj];rfl
   ·intro A s i v E' Q' ha hv hq
    rw[jk,zh]at hv;obtain⟨e,he,ev⟩:=kB.mp hv;have hi:i < es.size:=(K'.mp he).1;have i0:i=0:=by omega
    subst i0;obtain⟨pl,B'⟩:∃j,t.place = #[j]:=by
     have:t.place.size=1:=by omega
     exact⟨t.place[0],by
      apply Array.ext
      ·simp[this]
      ·intro k h1 h2;have:k=0:=by omega
       subst this;simp⟩
    unfold setNext setsByText;refine aa (kZ ha hd hf ?_);dsimp only;refine aa (aa (nH (ai ?_)));show wpAny _ _ (if w.params.followText "set-order" = true then _ else _) _ _ _;rw[aj (by rw[bt];exact cw)]
    show wpAny _ _ (if (!t.plain && decide (es.size > 1))=true then _ else _) _ _ _;rw[aj (by simp;omega)]
    show wpAny _ _ ((if (!t.led && !es.isEmpty)=true then unsupported "set:maker-not-led" else pure ()) >>= _) _ _ _;rw[led,aj (by simp)]
    refine aa (ai ?_);rw[B',ax rfl,MH,aj (by omega),he]
    refine ai ?_;show Q' (some (e.2,pl+1)) s;rw[ev];have:(if 0+1=0 then 0 else t.place.getD 0 0+1)=pl+1:=by rw[B'];rfl
    rw[this]at hq;exact hq
   ·intro A s E' Q' ha hq
    unfold setNext setsByText;refine aa (kZ ha hd hf ?_);dsimp only;refine aa (aa (nH (ai ?_)));show wpAny _ _ (if w.params.followText "set-order" = true then _ else _) _ _ _;rw[aj (by rw[bt];exact cw)]
    show wpAny _ _ (if (!t.plain && decide (es.size > 1))=true then _ else _) _ _ _;rw[aj (by simp;omega)]
    show wpAny _ _ ((if (!t.led && !es.isEmpty)=true then unsupported "set:maker-not-led" else pure ()) >>= _) _ _ _;rw[led,aj (by simp)]
    refine aa (ai ?_);have out:es[SetTable.below t.place (if (es.toList.map (·.2)).length=0 then 0 else t.place.getD 0 0+1)]? = none:=by
     rw[aJ,jj]
     by_cases z:es.size=0
     ·have:t.place = #[]:=Array.eq_empty_of_size_eq_zero (by omega)
      rw[this,Xp];exact Dj (by omega)
     ·have e1:es.size=1:=by omega
      obtain⟨pl,B'⟩:∃j,t.place = #[j]:=by
       have:t.place.size=1:=by omega
       exact⟨t.place[0],by
        apply Array.ext
        ·simp[this]
        ·intro k h1 h2;have:k=0:=by omega
         subst this;simp⟩
      rw[aj z,B',MH];have : #[pl].getD 0 0=pl:=rfl;rw[this,ax (by omega)]
      exact Dj (by omega)
    rw[out];exact ai hq
end
end HS
namespace HS
open PySem PySem.Spec PyProof.Rows PySem.W
section
variable{xs:List Str}
theorem Y6 {Q:Bool->Shared->Prop} (hT:s.TypeIs (.ref a) "set") (h:Q false s):wpAny (model P w) A (Builtin.List.listLengthHint (.ref a)) Q E s:=by
 unfold Builtin.List.listLengthHint;refine aa (Vz hT PySem.F.slot_set_len.lookup ?_);generalize R7:("set.__len__" : String)=id0
 wp_delta
 rw[show splitId id0=some ("set","__len__") from by subst R7;decide +kernel];subst R7
 refine aa (VL (T:= "set") (b:=true) hT (by rw[VI];kernel_rfl) ?_)
 refine VM (fun z=>absurd z (by decide)) fun _=>VM (fun _=>?_) fun z=>absurd (by decide +kernel) z
 exact aa (oY hT (ai h))
theorem Xq {R:Result->Shared->Prop} (hh:A.handled=none) (hS:f7 P w s.heap a xs) (nd:xs.Nodup) (S:Addr) (R8:S≠a) (res:Value) (c₀:Nat) (hL:s.heap.get? S=some { cls:= .type "list",data:= .seq #[] c₀ })
  (hR:∀h' d' tk (vs:List Value) (ys:List Str) c',(∀b o,b≠S->s.heap.get? b=some o->h'.get? b=some o)->h'.get? S=some { cls:= .type "list",dict:=none,data:= .seq vs.toArray c',slots:= #[] }->StrsAre vs ys->ys.Perm xs->R (.ok (.ret res)) { s with heap:=h',drawn:=d',toks:=tk }) :
  wpAny (model P w) A.in1 (Builtin.List.listExtendWith (.ref S) (.ref a) res)
   (fun fin s'=>match fin with|.done f=>R (.ok f) s'|.again c'=>c'.quiet=true/\codeAny (model P w) A c' R s') (fun e s'=>R (.error e) s') s:=by
 have hT:=hS.typeIs;have hsz:xs.length < scanBound:=by obtain⟨o,es,ep,t,ho,hex,hd,oG,jv,hb,hf,hn,_⟩:=hS;omega
 unfold Builtin.List.listExtendWith;refine aa (oY (T:= "set") hT ?_);have h1:Builtin.List.listSameRef (.ref S) (.ref a)=false:=by simp[Builtin.List.listSameRef,R8]
 have h2:(Value.type "set" == Value.type "list")=false:=by decide
 have h3:(Value.type "set" == Value.type "tuple")=false:=by decide
 simp only[h1,h2,h3,Bool.or_false,oZ,ir];refine aa (Y5 hS nd fun h' d' I fp vs ys W v1 v2 f1 f2 f3 f4 k=>?_);obtain⟨St,Wk,st⟩:=W.go;have W1:=Wk A.in1 (by simpa using hh)
 have vl:vs.length=xs.length:=by rw[tQ v1,v2.length_eq]
 have R9:S ∉ fp:=fun z=>by
  rcases f1 S z with e|e
  ·exact R8 e
  ·exact absurd (a9 hL) (Vy.mpr e)
 have Tn:Shared.TypeIs { s with heap:=h',drawn:=d' } (.ref a) "set" :=by
  obtain⟨o,e,c⟩:=hT;exact⟨o,k _ _ e,c⟩
 refine aa (eI (Y6 Tn ?_));have Je:=k _ _ hL;have key:∀ (h:Heap) (c₁:Nat),St 0 h->(∀b o,b≠S->s.heap.get? b=some o->h.get? b=some o)->h.get? S=some { cls:= .type "list",data:= .seq #[] c₁ } ->
   codeAny (model P w) A (.builtin "list.extend.loop" ⟨[.ref S,.ref I,res],[]⟩) R { s with heap:=h,drawn:=d' }:=by
  intro h c₁ fj hk ab4;refine codeAny_extend_loopS W1.toS (by rw[vl];exact Lh hsz) S R9 res vs.length 0 _ #[] c₁ rfl (bf _) fj ab4 (ItemsOf.nil _) fun s' Qh c' hm Jb F4=>?_
  rw[Moved.eq_with hm];have ev:Qh.toList=vs:=by
   apply List.ext_getElem?
   intro j;rw[zh]
   by_cases hj:j < vs.length
   ·have Jf:j < Qh.size:=by rw[F4.1];exact hj
    rw[vt Jf];exact(F4.2 j _ (vt Jf)).symm
   ·rw[Dj (by rw[F4.1];omega),Ll (by omega)]
  refine hR s'.heap d' s'.toks vs ys c' (fun b o hb e=>hm.heap b o (fun jv=>?_) (hk b o hb e)) (by rw[Jb,<-ev]) v1 v2
  rcases bj.mp jv with e'|jv
  ·exact hb e'
  ·exact absurd (a9 e) (by rw[dH.mp jv];exact Vy.mpr f4)
 refine VM (fun _=>?_) (fun _=>ai ⟨o3 anS _,key _ c₀ st (fun b o _ e=>k b o e) Je⟩);refine aa (oU (aa ?_));show wpAny _ _ (updateSeq S (·.push .none) >>= fun _=>updateSeq S (·.pop)) _ _ _;refine aa (VN Je rfl ?_);have O4:=zg (Obj.mapSeq (·.push Value.none)) Je rfl;refine VN (hz:=by seq_fits) O4 rfl ?_
 have ab5:=zg (Obj.mapSeq (·.pop)) O4 rfl;have xQ:∀b o,b≠S->h'.get? b=some o->((h'.update S (Obj.mapSeq (·.push Value.none))).update S (Obj.mapSeq (·.pop))).get? b=some o:=fun b o hb e=>(qI _ _ (aN hb)).trans ((qI _ _ (aN hb)).trans e);exact ai ⟨o3 anS _,key _ _ (W1.frame 0 _ _ st fun b hb o e=>xQ b o (fun z=>R9 (z ▸ hb)) e) (fun b o hb e=>xQ b o hb (k b o e)) ab5⟩
theorem WQ {Q:List Value->Shared->Prop} (hh:A.handled=none) (hS:f7 P w s.heap a xs) (nd:xs.Nodup)
  (hQ:∀h' d' tk (vs:List Value) (ys:List Str),(∀b o,s.heap.get? b=some o->h'.get? b=some o)->StrsAre vs ys->ys.Perm xs->Q vs { s with heap:=h',drawn:=d',toks:=tk }):wpAny (model P w) A (collect (.ref a)) Q E s:=by
 unfold collect;refine aa (VH (mf anT ?_));rw[nF anU _];show wpAny _ A.in1 (newList [] >>= fun l=>again (.builtin "list.__iadd__" ⟨[l,.ref a],[]⟩)) _ _ s;refine aa (iP (ai ⟨o3 Lm _,mf anV ?_⟩));rw[nF Lm _];show wpAny _ A.in1 (Builtin.List.listExtendWith (.ref s.heap.objs.size) (.ref a) (.ref s.heap.objs.size)) _ _ _;have hn:s.heap.objs.size≠a:=oV hS.lt;refine Xq (R:=fun r s'=>match r with|.ok (.ret v)=>wpAny (model P w) A (match v with|.ref a=>(do match (<- load a).data with|.seq xs _=>pure xs.toList|_=>unsupported "internal:collect")|_=>unsupported "internal:collect") Q E s'|.ok _=>False|.error e=>E e s') (s:={ s with heap:=s.heap.push { cls:= .type "list",data:= .seq ([]:List Value).toArray } }) hh (hS.keep fun o e=>a8 _ e) nd _ hn _ 0 (cp _ rfl) fun h' d' tk vs ys c' k hl v1 v2=>?_;show wpAny _ A (load s.heap.objs.size >>= _) _ _ _;refine aa (zb hl (ai ?_));exact hQ h' d' tk vs ys (fun b o e=>k b o (bx (a9 e)) (a8 _ e)) v1 v2
theorem Xr (hh:A.handled=none) (hS:f7 P w s.heap a xs) (nd:xs.Nodup) (sj:xs.length<=63)
  (hQ:∀D c h' d' tk (vs:List Value) (ys:List Str),(∀b o,s.heap.get? b=some o->h'.get? b=some o)->(∀b o,s.heap.get? b=some o->b≠D)->h'.get? D=some (listOf vs.toArray c)->StrsAre vs ys->ys.Perm xs->sortedS ys=true->Q (.ref D) { s with heap:=h',drawn:=d',toks:=tk }) :
  wpAny (model P w) A (call (.builtin "sorted") [.ref a]) Q E s:=by
 refine anW kind_sorted plain_sorted entry_sorted (args_sorted1 _) ?_;unfold Builtin.«sorted»;refine aa (m:=checkCount "sorted" 1 1 _) (ai (aa (WQ (by simpa using hh) hS nd fun h1 d1 t1 vs ys k1 v1 p1=>?_)))
 have vl:vs.length=xs.length:=by rw[tQ v1,p1.length_eq]
 refine aa (Lg ?_ (by rw[aT];omega))
 have ja:(h1.push (seqObj "list" vs.toArray 0)).get? h1.objs.size=some (seqObj "list" vs.toArray 0):=cp _ rfl;refine aa (eI (md slot_list_sort ⟨_,ja,rfl⟩ entry_list_sort (list_sort_treeK strKind_oneLt ja v1.keysOf (fun aov aow rest e=>keyKind_strs (by rw[<-e];exact v1)) (by omega) fun i6 a1 a2=>⟨_,rfl,?_⟩) (args_list_sort _)))
 obtain⟨fU,b1,b2,b3⟩:=sorted_out_str v1 a1 a2;obtain⟨c,hc⟩:=sortedHeap_at (n:=0) (vs:=vs) (out:=(arrOf i6).map (·.2)) ja;refine ai ⟨_,rfl,hQ _ c _ d1 t1 _ fU (fun b o e=>?_) (fun b o e=>bx (a9 (k1 b o e))) (by rw[hc]) b1 (b2.trans p1) b3⟩
 have e1:=k1 b o e;have Jg:=a9 e1;rw[sortedHeap_old (bx Jg) (by rw[size_push'];exact qK Jg),Heap.get?_push_ne _ _ _ (bx Jg)]
 exact e1
end
end HS
namespace L2
open PySem PySem.Spec PyProof.Rows PySem.W HS
def w8 (P:Program) (w:World) (a:Addr) (xs:List Str):HO:= .ext fun h=>xs.Nodup/\f7 P w h a xs
theorem Z9 {xs:List Str} (nd:xs.Nodup) (x:f7 P w h a xs):bu P w H h a (w8 P w a xs):=
 ⟨⟨nd,x⟩,(let ⟨o,_,_,_,e,_⟩:=x;⟨o,e⟩),fun _ _ q k=>⟨q.1,q.2.keep k⟩⟩
theorem Inv.draw {σ:List (Option V)} (I:Inv X pins σ H s) (d:Drawn):Inv X pins σ H { s with drawn:=d }:=⟨I.ok,I.os,I.bare,I.base,I.loc,I.cell,I.free,I.gN,I.pin,I.au,I.len⟩
theorem EA:∀ {vs:List Value}{ys:List Str},StrsAre vs ys -> ∀ (i:Nat) (v:Value),vs[i]? = some v -> ∃t,v = .str (ys.getD i "") t
 |_,_,.nil,i,v,h=>by simp at h
 |_,_,.cons y t r,0,v,h=>by simp at h;exact⟨t,by rw[<-h];rfl⟩
 |_,_,.cons y t r,i+1,v,h=>by
  obtain⟨t',e⟩:=EA r i v (by simpa using h)
  exact⟨t',by rw[e];rfl⟩
theorem Y7 (hc:X.calm=true):eu X (.type "set") (fun vs H Q=>∃ (p:Addr) (ss:List Str),vs = [.ref p]/\(ak X.K H p (ss.map V.str)\/aE X.K H p (ss.map V.str))/\ss.length<=1000 /\ ∀a ds,H a=none->ds.Nodup->(∀y,y∈ds ↔ y∈ss)->Q (.ref a) (upd H a (w8 X.prog X.w a ds))):=by
 intro pins s σ H vs us Q I r h;obtain⟨p,ss,rfl,hq,h1k,q⟩:=h;obtain⟨u,rfl,rx⟩:=vals1 r;cases rx
 have fin:∀ (its:List Value) {T:String}{ol:Obj},Vals (ss.map V.str) its->Src X.prog X.w T p ol its.toArray.size (fun i v=>its.toArray[i]? = some v)->s.heap.get? p=some ol->wpAny (model X.prog X.w) X.A (call (.type "set") [.ref p]) (EP X pins σ Q) X.xe s:=fun its {T ol} rv C hp=>by
  have st:=vC rv;have hlen:its.length=ss.length:=tQ st;refine X3 (val:=fun i=>ss.getD i "") (I.ok.hd hc) C hp (fun i v hv=>EA st i v (by simpa using hv)) (by rw[b8,hlen];unfold scanBound;omega) fun h' tk x k=>?_
  have kp:∀b o,s.heap.get? b=some o->h'.get? b=some o:=fun b o e=>k b o (a9 e) e;have nd:=N7 (fun i=>ss.getD i "") its.toArray.size;refine⟨.ref s.heap.objs.size,_,I.laid (t':=tk) kp (aP _) (Z9 nd x),rfl,q _ _ (I.au.fresh (aP _)) nd fun y=>?_⟩;rw[Nj,b8,hlen]
  constructor
  ·rintro⟨j,hj,rfl⟩
   rw[show ss.getD j "" = ss[j] by simp[hj]]
   exact kY hj
  ·intro hy
   obtain⟨j,hj,e⟩:=List.mem_iff_getElem.mp hy;exact⟨j,hj,by simp[hj,e]⟩
 rcases hq with hq|hq
 ·obtain⟨its,r',pl,hz⟩:=I.list hq
  obtain⟨o,ho,jz,n,hd⟩:=pl.isList;exact fin its r' (src_list jz ⟨n,hd⟩) ho
 ·obtain⟨its,r',pl,hz⟩:=I.tuple hq
  obtain⟨o,ho,jz,n,hd⟩:=pl;exact fin its r' (Z8 jz ⟨n,hd⟩) ho
theorem Wf (hc:X.calm=true):eu X (.builtin "sorted") (fun vs H Q=>∃ (a:Addr) (ds:List Str),vs = [.ref a]/\H a=some (w8 X.prog X.w a ds)/\ds.length<=63 /\ ∀D fU,H D=none->fU.Perm ds->sortedS fU=true->Q (.ref D) (upd H D (.lst (fU.map V.str)))):=by
 intro pins s σ H vs us Q I r h;obtain⟨a,ds,rfl,hq,sj,q⟩:=h;obtain⟨u,rfl,rx⟩:=vals1 r;cases rx
 obtain⟨⟨nd,x⟩,_⟩:=(show bu X.prog X.w H s.heap a (w8 X.prog X.w a ds) from I.au a _ hq);obtain⟨m,hm,_⟩:=id I.loc;refine Xr (I.ok.hd hc) x nd sj fun D c h' d' tk out ys k hD new st p Ca=>?_;obtain⟨hn,I'⟩:=Inv.sorted (t':=tk) (ys:=ys.map V.str) I hm (hm.at' fun o e=>k _ _ e) (fun b o _ e=>k b o e) hD new (DT st) (by rw[aJ,p.length_eq,aT];omega)
 exact⟨.ref D,_,I'.draw d',rfl,q _ ys hn p Ca⟩
end L2
namespace L2
open PySem PySem.W PySem.Calls PyProof.Rows
section
variable{α β:Type}{lt:Nat->Nat->Bool}
def lO (lt:Nat->Nat->Bool) (p:Array Nat) (k:Nat):Prop:= ∀i j,i < j->j < k->lt (p.getD i 0) (p.getD j 0)=true
def qb (lt:Nat->Nat->Bool) (p:Array Nat) (k:Nat):Prop:= ∀i j,i < j->j < k->lt (p.getD j 0) (p.getD i 0)=true
theorem Pm.size {p:Array Nat} (h:Pm n p):p.size=n:=by have:=h.length_eq;simpa using this
theorem Pm.ne {p:Array Nat} (h:Pm n p) (hi:i < n) (hj:j < n) (e:i≠j):p.getD i 0≠p.getD j 0:=by
 have hs:=h.size;have nd:p.toList.Nodup:=h.nodup_iff.mpr List.nodup_range;intro z;rw[nG,nG,vt (by omega),vt (by omega)]at z
 have z2:p.toList[i]'(by simp;omega)=p.toList[j]'(by simp;omega):=by simpa using z
 exact e ((List.getElem_inj nd).mp z2)
theorem Np {p:Array Nat}{m:Nat} (hm:m<=p.size) (k:Nat) (hk:k < m):(kas_rev p 0 m).getD k 0=p.getD (m - 1 - k) 0:=by
 unfold kas_rev;rw[nG,getElem?_mirror_all hm,ax ⟨bf _,hk⟩,nG,Nat.zero_add]
theorem qb.rev {p:Array Nat}{m:Nat} (hm:m<=p.size) (a:qb lt p m):lO lt (kas_rev p 0 m) m:=fun i j gQ hj=>by
 rw[Np hm i (by omega),Np hm j hj]
 exact a _ _ (by omega) (by omega)
theorem Nq {p:Array Nat}{k l:Nat} (hk:k < p.size) (hl:l<=k) (i:Nat):(bubble p k (k - l)).getD i 0=if i=l then p.getD k 0 else if l < i/\i<=k then p.getD (i - 1) 0 else p.getD i 0:=by
 rw[nG,getElem?_bubble hk (k - l) (by omega)]
 have:k - (k - l)=l:=by omega
 rw[this]
 by_cases c1:i=l
 ·rw[ax c1,ax c1];exact(nG ..).symm
 ·rw[aj c1,aj c1]
  by_cases c2:l < i/\i<=k
  ·rw[ax c2,ax c2];exact(nG ..).symm
  ·rw[aj c2,aj c2];exact(nG ..).symm
end
def qd (p q:Str):Bool:=decide (p.cps.toList < q.cps.toList)
theorem Y8 (p:Str):qd p p=false:=ji (List.lt_irrefl _)
theorem abf {p q r:Str} (h1:qd p q=true) (h2:qd q r=true):qd p r=true:=fY (List.lt_trans (iQ h1) (iQ h2))
theorem Z' {p q:Str} (h:p≠q) (f:qd p q=false):qd q p=true:=by
 refine fY ?_;have h1 : ¬ p.cps.toList < q.cps.toList:=of_decide_eq_false f;have h2:q.cps.toList<=p.cps.toList:=List.not_lt.mp h1
 by_cases z:q.cps.toList < p.cps.toList
 ·exact z
 ·exact absurd (YY (a:=p) (b:=q) (List.not_lt.mp z) h2) h
theorem X4 {α β:Type}{F:α->β->Prop}{l:List α}{m:List β} (h:Paired F l m) (dl:α) (dm:β) (i:Nat) (hi:i < l.length):F (l.getD i dl) (m.getD i dm):=by
 induction h generalizing i with
 |nil=>exact absurd hi (zm _)
 |cons p _ ih =>
  cases i with
  |zero=>exact p
  |succ i=>exact ih i (Lj hi)
theorem LY {α β γ:Type}{F:α->β->Prop}{f:γ->α}{g:γ->β}:∀ {l:List γ},(∀x∈l,F (f x) (g x))->Paired F (l.map f) (l.map g)
 |[],_=>.nil
 |x::l,h=>.cons (h x aW) (LY fun y hy=>h y (bq _ hy))
theorem abg {lt:Nat->Nat->Bool}{p:Array Nat} (hs:p.size=n) (a:lO lt p n):p.toList.Pairwise fun i j=>lt i j=true:=by
 rw[List.pairwise_iff_getElem];intro i j hi hj gQ;have h1:i < p.size:=by simpa using hi
 have h2:j < p.size:=by simpa using hj
 have:=a i j gQ (by omega)
 rw[nG,nG,vt h1,vt h2]at this
 simpa using this
end L2
namespace HS
open PySem PySem.Spec PyProof.Rows PySem.W
theorem WR {vs:List Value}{Q:List Value->Shared->Prop} (ht:IsTup s.heap l vs.toArray) (hz:vs.length<=sizeLine) (q:∀h',(∀b o,s.heap.get? b=some o->h'.get? b=some o)->Q vs { s with heap:=h' }) :
  wpAny (model P w) A (collect (.ref l)) Q E s:=by
 obtain⟨o,ho,hc,n,hd⟩:=id ht;unfold collect;refine aa (VH (mf anT ?_));rw[nF anU _];show wpAny _ A.in1 (newList [] >>= fun z=>again (.builtin "list.__iadd__" ⟨[z,.ref l],[]⟩)) _ _ s;refine aa (Lg (ai ⟨o3 Lm _,mf anV ?_⟩));rw[nF Lm _];show wpAny _ _ (Builtin.List.listExtendWith (.ref s.heap.objs.size) (.ref l) (.ref s.heap.objs.size)) _ _ { s with heap:=s.heap.push (seqObj "list" #[] 0) };unfold Builtin.List.listExtendWith;have i8:(s.heap.push (seqObj "list" #[] 0)).get? l=some o:=a8 _ ho;refine aa (oY (T:= "tuple") ⟨o,i8,hc⟩ ?_);have t1:(Value.type "tuple" == Value.type "tuple")=true:=by rfl
 rw[ax (by rw[t1];simp)]
 refine aa (listItems_at i8 hd (aa (listItems_at (xs:= #[]) (n:=0) (cp _ rfl) rfl ?_)));rw[aj (by simp)]
 refine aa (listUpdate_at (xs:= #[]) (n:=0) (cp _ rfl) rfl (ai ?_) (bf _) (by show(#[]++vs.toArray).size<=sizeLine+1;simp only[Dg,b8,sS];omega))
 show wpAny (model P w) A (load s.heap.objs.size >>= _) Q E { s with heap:=(s.heap.push (seqObj "list" #[] 0)).update s.heap.objs.size (Obj.mapSeq (· ++ vs.toArray)) };refine aa (zb (get?_update_seq (cp _ rfl) _) ?_);show wpAny _ _ (pure ((#[]:Array Value)++vs.toArray).toList) Q E _;rw[show((#[]:Array Value)++vs.toArray).toList=vs by simp]
 refine ai (q _ fun b ob e=>?_);exact(qI _ _ (oV (a9 e))).trans (a8 _ e)
end HS
namespace L2
open PySem PySem.Spec PyProof.Rows PySem.W HS
end L2
namespace L2
open PySem PySem.W PySem.Calls PyProof.Rows
structure lD (n:Nat) (lt:Nat->Nat->Bool):Prop where
 tr:∀i j k,i < n->j < n->k < n->lt i j=true->lt j k=true->lt i k=true
 tot:∀i j,i < n->j < n->i≠j->lt i j=false->lt j i=true
def dU {α:Type} (n:Nat) (lt:Nat->Nat->Bool) (φ:α->Prop):KasT α->Prop
 |.ret a=>φ a
 |.ask i j k=>i < n/\j < n/\i≠j/\dU n lt φ (k (lt i j))
section
variable{α β:Type}{lt:Nat->Nat->Bool}
theorem dU.bind {φ:α->Prop}{ψ:β->Prop}{f:α->KasT β} (g:∀a,φ a->dU n lt ψ (f a)):∀ {t:KasT α},dU n lt φ t->dU n lt ψ (t.bind f)
 |.ret a,h=>g a h
 |.ask _ _ _,h=>⟨h.1,h.2.1,h.2.2.1,dU.bind g h.2.2.2⟩
theorem dU.wp {φ:α->Prop}{cmp:Nat->Nat->(Bool->Shared->Prop)->Shared->Prop}{Q:α->Shared->Prop}{s:Shared} (hc:∀i j C,i < n->j < n->i≠j->C (lt i j) s->cmp i j C s):∀ {t:KasT α},dU n lt φ t->(∀a,φ a->Q a s)->t.kasWp cmp Q s
 |.ret a,h,q=>q a h
 |.ask _ _ _,h,q=>hc _ _ _ h.1 h.2.1 h.2.2.1 (dU.wp hc h.2.2.2 q)
theorem dU.mono {φ ψ:α->Prop} (g:∀a,φ a->ψ a):∀ {t:KasT α},dU n lt φ t->dU n lt ψ t
 |.ret a,h=>g a h
 |.ask _ _ _,h=>⟨h.1,h.2.1,h.2.2.1,dU.mono g h.2.2.2⟩
theorem Fi {p:Array Nat} (O:lD n lt) (h:Pm n p) (hi:i < n) (hj:j < n) (e:i≠j) (f:lt (p.getD i 0) (p.getD j 0)=false):lt (p.getD j 0) (p.getD i 0)=true:=
 O.tot _ _ (h.lt (by omega) i) (h.lt (by omega) j) (h.ne hi hj e) f
theorem X5 {p:Array Nat} (O:lD n lt) (h:Pm n p) {m:Nat} (h1:1<=m) (hm:m < n) (a:lO lt p m) (l:lt (p.getD (m - 1) 0) (p.getD m 0)=true):lO lt p (m+1):=fun i j gQ hj=>by
 by_cases e:j < m
 ·exact a i j gQ e
 ·obtain rfl:j=m:=by omega
  by_cases e2:i=j - 1
  ·rw[e2];exact l
  ·exact O.tr _ _ _ (h.lt (by omega) _) (h.lt (by omega) _) (h.lt (by omega) _) (a i (j - 1) (by omega) (by omega)) l
theorem X6 {p:Array Nat} (O:lD n lt) (h:Pm n p) {m:Nat} (h1:1<=m) (hm:m < n) (a:qb lt p m) (l:lt (p.getD m 0) (p.getD (m - 1) 0)=true):qb lt p (m+1):=fun i j gQ hj=>by
 by_cases e:j < m
 ·exact a i j gQ e
 ·obtain rfl:j=m:=by omega
  by_cases e2:i=j - 1
  ·rw[e2];exact l
  ·exact O.tr _ _ _ (h.lt (by omega) _) (h.lt (by omega) _) (h.lt (by omega) _) l (a i (j - 1) (by omega) (by omega))
theorem D9 {p:Array Nat} (O:lD n lt) (h:Pm n p):∀ (f m:Nat),1<=m->m+f<=n->lO lt p m->dU n lt (fun r=>m<=r/\r<=m+f/\lO lt p r/\(r < m+f->lt (p.getD r 0) (p.getD (r - 1) 0)=true)) (kas_asc p f m)
 |0,m,h1,h2,a=>⟨aP _,aP _,a,fun z=>absurd z (by omega)⟩
 |f+1,m,h1,h2,a=>⟨h.lt (by omega) _,h.lt (by omega) _,h.ne (by omega) (by omega) (by omega),by
  cases c:lt (p.getD m 0) (p.getD (m - 1) 0) with
  |true=>exact⟨aP _,by omega,a,fun _=>c⟩
  |false =>
   refine dU.mono (fun r hr=>?_) (D9 O h f (m+1) (by omega) (by omega) (X5 O h h1 (by omega) a (Fi O h (by omega) (by omega) (by omega) c)))
   exact⟨by omega,by omega,hr.2.2.1,fun z=>hr.2.2.2 (by omega)⟩⟩
theorem MJ {p:Array Nat} (O:lD n lt) (h:Pm n p):∀ (f m:Nat),1<=m->m+f<=n->qb lt p m->dU n lt (fun r:Array Nat×Nat×Nat=>r.1=p/\r.2.2=0/\m<=r.2.1/\r.2.1<=m+f/\qb lt p r.2.1) (kas_desc f p m 0)
 |0,m,h1,h2,a=>⟨rfl,rfl,aP _,aP _,a⟩
 |f+1,m,h1,h2,a=>⟨h.lt (by omega) _,h.lt (by omega) _,h.ne (by omega) (by omega) (by omega),by
  cases c:lt (p.getD m 0) (p.getD (m - 1) 0) with
  |true =>
   show dU n lt _ (if 0 > 0 then kas_desc f (kas_rev p (m - (0+1)) m) (m+1) 0 else kas_desc f p (m+1) 0);rw[aj (by omega)]
   refine dU.mono (fun r hr=>?_) (MJ O h f (m+1) (by omega) (by omega) (X6 O h h1 (by omega) a c))
   exact⟨hr.1,hr.2.1,by omega,by omega,hr.2.2.2.2⟩
  |false =>
   refine⟨h.lt (by omega) _,h.lt (by omega) _,h.ne (by omega) (by omega) (by omega),?_⟩
   rw[Fi O h (by omega) (by omega) (by omega) c]
   exact⟨rfl,rfl,aP _,Nat.le_add_right _ _,a⟩⟩
def AU (n:Nat) (lt:Nat->Nat->Bool) (r:Nat×Array Nat):Prop:=Pm n r.2/\lO lt r.2 r.1/\1<=r.1/\r.1<=n
theorem Xs {p:Array Nat} (O:lD n lt) (h:Pm n p) {m:Nat} (h1:1<=m) (h2:m<=n) (a:qb lt p m):dU n lt (AU n lt) (kas_tail3 m n p):=
 dU.bind (ψ:=AU n lt) (f:=fun k=>.ret (k,kas_rev p 0 m)) (fun r hr=>(show AU n lt (r,kas_rev p 0 m) from⟨h.rev _ _,hr.2.2.1,fw h1 hr.1,by have:=hr.2.1;show r<=n;omega⟩)) (D9 O (h.rev 0 m) (n - m) m h1 (by omega) (a.rev (by rw[h.size];exact h2)))
theorem Xt {p:Array Nat} (O:lD n lt) (hn:2<=n) (h:Pm n p):dU n lt (AU n lt) (kas_count n p):=
 (D9 O h (n - 1) 1 (aP _) (by omega) (fun i j gQ hj=>absurd hj (by omega))).bind fun m hm=>by
  obtain⟨m1,m2,ma,ml⟩:=hm;show dU n lt _ (if (m==n)=true then _ else if m > 1 then _ else _);split
  ·rename_i e
   have:m=n:=by simpa using e
   subst this;exact⟨h,ma,m1,aP _⟩
  ·rename_i e
   have ne:m≠n:=by simpa using e
   split
   ·rename_i g
    refine⟨h.lt (by omega) _,h.lt (by omega) _,h.ne (by omega) (by omega) (by omega),?_⟩
    rw[ma 0 (m - 1) (by omega) (by omega)]
    exact⟨h,ma,m1,by omega⟩
   ·obtain rfl:m=1:=by omega
    have l:=ml (by omega)
    have d2:qb lt p 2:=fun i j gQ hj=>by
     obtain rfl:j=1:=by omega
     obtain rfl:i=0:=by omega
     exact l
    refine dU.bind (fun r hr=>?_) (MJ O h (n - (1+1)) (1+1) (by omega) (by omega) d2)
    obtain⟨r1,r2,r3,r4,r5⟩:=hr;show dU n lt _ (if r.2.2 > 0 then _ else _);rw[aj (by omega),r1]
    exact Xs O h (by omega) (by omega) r5
theorem DG {p:Array Nat} (O:lD n lt) (h:Pm n p) {k:Nat} (hk:k < n) (a:lO lt p k):∀ (f l r:Nat),r - l<=f->l<=r->r<=k->(∀i,i < l->lt (p.getD i 0) (p.getD k 0)=true)->(∀i,r<=i->i < k->lt (p.getD k 0) (p.getD i 0)=true) ->
  dU n lt (fun m=>m<=k/\(∀i,i < m->lt (p.getD i 0) (p.getD k 0)=true) /\ ∀i,m<=i->i < k->lt (p.getD k 0) (p.getD i 0)=true) (kas_place p k f l r)
 |0,l,r,hf,hl,hr,lo,hi=>by
  obtain rfl:l=r:=by omega
  exact⟨hr,lo,hi⟩
 |f+1,l,r,hf,hl,hr,lo,hi=>by
  show dU n lt _ (if l ≥ r then _ else _);split
  ·obtain rfl:l=r:=by omega
   exact⟨hr,lo,hi⟩
  ·refine⟨h.lt (by omega) _,h.lt (by omega) _,h.ne (by omega) (by omega) (by omega),?_⟩
   cases c:lt (p.getD k 0) (p.getD ((l+r) / 2) 0) with
   |true =>
    refine DG O h hk a f l ((l+r) / 2) (by omega) (by omega) (by omega) lo fun i xX hi2=>?_
    by_cases e:i=(l+r) / 2
    ·rw[e];exact c
    ·exact O.tr _ _ _ (h.lt (by omega) _) (h.lt (by omega) _) (h.lt (by omega) _) c (a _ i (by omega) hi2)
   |false =>
    have c2:=Fi O h (i:=k) (j:=(l+r) / 2) hk (by omega) (by omega) c
    refine DG O h hk a f ((l+r) / 2+1) r (by omega) (by omega) hr (fun i xX=>?_) hi
    by_cases e:i=(l+r) / 2
    ·rw[e];exact c2
    ·exact O.tr _ _ _ (h.lt (by omega) _) (h.lt (by omega) _) (h.lt (by omega) _) (a i _ (by omega) (by omega)) c2
theorem Nr (O:lD n lt):∀ (f:Nat) (p:Array Nat) (k:Nat),k+f=n->Pm n p->lO lt p k->dU n lt (fun r=>Pm n r/\lO lt r n) (kas_bin f p k)
 |0,p,k,e,h,a=>by
  obtain rfl:k=n:=by omega
  exact⟨h,a⟩
 |f+1,p,k,e,h,a=>(DG O h (by omega) a k 0 k (by omega) (bf _) (aP _) (fun i hi=>absurd hi (zm _)) (fun i h1 h2=>absurd h2 (by omega))).bind fun l hl=>by
  obtain⟨l1,l2,l3⟩:=hl;refine Nr O f _ _ (by omega) (h.bub _ _) fun i j gQ hj=>?_
  have hsz:=h.size;rw[Nq (by omega) l1 i,Nq (by omega) l1 j]
  by_cases i1:i=l
  ·rw[ax i1,aj (by omega),ax (by omega)]
   exact l3 _ (by omega) (by omega)
  ·rw[aj i1]
   by_cases i2:l < i/\i<=k
   ·rw[ax i2,aj (by omega),ax (by omega)]
    exact a _ _ (by omega) (by omega)
   ·rw[aj i2]
    by_cases j1:j=l
    ·rw[ax j1];exact l2 i (by omega)
    ·rw[aj j1]
     by_cases j2:l < j/\j<=k
     ·rw[ax j2]
      exact a _ _ (by omega) (by omega)
     ·rw[aj j2]
      exact a _ _ gQ (by omega)
theorem X7 (O:lD n lt) (hn:2<=n):dU n lt (fun r=>Pm n r/\lO lt r n) (kas_sort n):=
 (Xt O hn (qL _)).bind fun r hr=>by
  obtain⟨r1,r2,r3,r4⟩:=hr;show dU n lt _ (if r.1 < n then _ else _);split
  ·refine Nr O _ _ _ (by omega) r1 ?_
   rw[show max r.1 1=r.1 by omega];exact r2
  ·obtain e:r.1=n:=by omega
   rw[e]at r2;exact⟨r1,r2⟩
end
end L2
namespace L2
open PySem PySem.W PySem.Calls PyProof.Rows HS
def iM:List Str->List Str->Bool
 |a::as,b::bs=>if a=b then iM as bs else qd a b
 |_,_=>false
theorem OI:∀ {a b c:List Str},a.length=b.length->b.length=c.length->iM a b=true->iM b c=true->iM a c=true
 |[],_,_,h1,_,h,_=>by unfold iM at h;cases h
 |a::as,[],_,h1,_,_,_=>by simp at h1
 |a::as,b::bs,[],_,h2,_,_=>by simp at h2
 |a::as,b::bs,c::cs,h1,h2,h3,h4=>by
  unfold iM at h3 h4 ⊢
  by_cases e1:a=b
  ·rw[ax e1]at h3
   subst e1
   by_cases e2:a=c
   ·rw[ax e2]at h4 ⊢;exact OI (by simpa using h1) (by simpa using h2) h3 h4
   ·rw[aj e2]at h4 ⊢;exact h4
  ·rw[aj e1]at h3
   by_cases e2:b=c
   ·subst e2
    rw[aj e1];exact h3
   ·rw[aj e2]at h4
    have t:=abf h3 h4
    by_cases e3:a=c
    ·subst e3;rw[Y8]at t;cases t
    ·rw[aj e3];exact t
theorem N9:∀ {a b:List Str},a.length=b.length->a≠b->iM a b=false->iM b a=true
 |[],[],_,h,_=>absurd rfl h
 |[],b::bs,h,_,_=>by simp at h
 |a::as,[],h,_,_=>by simp at h
 |a::as,b::bs,h1,h2,h3=>by
  unfold iM at h3 ⊢
  by_cases e:a=b
  ·subst e
   rw[ax rfl]at h3 ⊢;exact N9 (by simpa using h1) (fun z=>h2 (by rw[z])) h3
  ·rw[aj e]at h3;rw[aj (aN e)]
   exact Z' e h3
theorem X8 {a b:Str}{t u:Tok}{c:Bool}{Q:Bool->Shared->Prop} (h:Q (qd a b) s):wpAny (model P w) A (oneLt' c (.str a t) (.str b u)) Q E s:=by
 cases c with
 |true=>exact oneLt_str h
 |false =>
  rw[oneLt'_eq];simp only[oZ,ir];exact aa (PyProof.Rows.lt_str (nB h))
theorem MK {b fin:Bool}{Q:Bool->Shared->Prop}:∀ {as bs:List Str}{us vs:List Value}{ru rv:List Value} (i:Nat),StrsAre us as->StrsAre vs bs->as.length=bs.length->as≠bs->Q (iM as bs) s->KatLex P w A b fin Q ((us++ru).zip (vs++rv)) i s
 |[],[],_,_,_,_,_,_,_,_,h,_=>absurd rfl h
 |[],_::_,_,_,_,_,_,_,_,h,_,_=>by simp at h
 |_::_,[],_,_,_,_,_,_,_,h,_,_=>by simp at h
 |a::as,b'::bs,_,_,ru,rv,i,.cons _ t h1,.cons _ u h2,hl,bY,q=>by
  unfold iM at q;refine kat_cons (U7 ?_)
  by_cases e:a=b'
  ·rw[fY e]
   rw[ax e]at q;exact kat_yes (MK (i+1) h1 h2 (by simpa using hl) (fun z=>bY (by rw[e,z])) q)
  ·rw[ji e]
   rw[aj e]at q;exact kat_no (X8 q)
def rg (H:Hp) (m:Nat) (vs:List V) (kvs:List (List Str×List V)):Prop:=Paired (fun y p=>∃a,y=V.ref a/\H a=some (.tup (p.1.map V.str++p.2))/\p.1.length=m) vs kvs
theorem LZ {H:Hp}:∀ {ks:List Str}{rest:List V}{its:List Value},Vals (ks.map V.str++rest) its -> ∃us ru,its=us++ru/\StrsAre us ks
 |[],rest,its,h=>⟨[],its,rfl,.nil⟩
 |k::ks,rest,its,h=>by
  cases h with
  |cons r t =>
   obtain⟨tk,rfl⟩:=r;obtain⟨us,ru,e,st⟩:=LZ (H:=H) t;exact⟨.str k tk::us,ru,by rw[e];rfl,.cons k tk st⟩
theorem X9 {σ:List (Option V)}{Q:VK}
  (col:∀ (A:Around) (E:Value->Shared->Prop) (Q':List Value->Shared->Prop),(X.A.handled=none->A.handled=none)->(∀ (its:List Value) (s1:Shared) (H:Hp) (ys:List V) (kvs:List (List Str×List V)) (mm:Nat),Inv X pins σ H s1->Vals ys its->rg H mm ys kvs->1<=mm->(kvs.map (·.1)).Nodup->ys.length<=63 ->
   (∀D iK eM,H D=none->iK.Perm ys->rg H mm iK eM->eM.Perm kvs->(eM.map (·.1)).Pairwise (fun a b=>iM a b=true)->Q (.ref D) (upd H D (.lst iK)))->Q' its s1)->wpAny (model X.prog X.w) A (collect (.ref p)) Q' E s) :
  wpAny (model X.prog X.w) X.A (call (.builtin "sorted") [.ref p]) (EP X pins σ Q) X.xe s:=by
 refine anW kind_sorted plain_sorted entry_sorted (args_sorted1 _) ?_;unfold Builtin.«sorted»;refine aa (m:=checkCount "sorted" 1 1 _) (ai (aa (col _ _ _ (fun h=>by simpa using h) fun its s H ys kvs mm I rv pr Jh nd sj q=>?_)))
 have hz:ys.length<=sizeLine:=by rw[aT];omega
 have mS:ys.length=kvs.length:=gZ pr;have kJ:=rv.length;have at_:∀ (i:Nat),i < its.length -> ∃ (ks:List Str) (a:Addr) (tu ru:List Value),(kvs.map (·.1))[i]? = some ks/\its[i]? = some (.ref a)/\a≠X.env.locals/\IsTup s.heap a (tu++ru).toArray/\StrsAre tu ks/\ks.length=mm:=by
  intro i hi;have Ji:i < ys.length:=by omega
  obtain⟨p',ij,a,ey,ha,hlm⟩:=tV pr (show ys[i]? = some ys[i] from b4 Ji);obtain⟨u,hu,ru⟩:=rv.get (show ys[i]? = some (V.ref a) by rw[b4 Ji,ey])
  cases ru
  obtain⟨i2,r2,t2,_⟩:=I.tuple (aE.of ha);obtain⟨tu,ru,e,st⟩:=LZ (H:=H) r2;rw[e]at t2;exact⟨p'.1,a,tu,ru,by rw[jk,ij];rfl,hu,(fun z=>by rw[z,I.free]at ha;cases ha),t2,st,hlm⟩
 obtain⟨m,hm,_⟩:=id I.loc
 let lt:Nat->Nat->Bool:=fun i j=>iM ((kvs.map (·.1)).getD i []) ((kvs.map (·.1)).getD j [])
 have kl:(kvs.map (·.1)).length=its.length:=by rw[aJ];omega
 have ux:∀i,i < its.length->((kvs.map (·.1)).getD i []).length=mm:=fun i hi=>by
  obtain⟨ks,_,_,_,h1,_,_,_,_,h2⟩:=at_ i hi;rw[jO,h1];exact h2
 have sq:∀i j,i < its.length->j < its.length->i≠j->(kvs.map (·.1)).getD i []≠(kvs.map (·.1)).getD j []:=fun i j hi hj gQ e=>gQ ((Ln (by omega) nd).mp (by
  rw[jO,jO,b4 (by omega),b4 (by omega)]at e
  rw[b4 (by omega),b4 (by omega)]
  exact eU some e))
 have O:lD its.length lt:=⟨fun i j k hi hj hk h1 h2=>OI ((ux i hi).trans (ux j hj).symm) ((ux j hj).trans (ux k hk).symm) h1 h2,fun i j hi hj gQ f=>N9 ((ux i hi).trans (ux j hj).symm) (sq i j hi hj gQ) f⟩;have fin:∀ (h':Heap) (D:Addr) (c:Nat) (pa:Array Nat),(∀b o,b≠X.env.locals->s.heap.get? b=some o->h'.get? b=some o)->h'.Ns X.env.locals m->(∀b o,s.heap.get? b=some o->b≠D)->Pm its.length pa->(pa.toList.Pairwise fun i j=>lt i j=true) ->
   h'.get? D=some (listOf (pa.toList.map fun i=>its.getD i Value.none).toArray c) -> ∃v H',Inv X pins σ H' { s with heap:=h' }/\RelV v (.ref D)/\Q v H':=by
  intro h' D c pa k mQ hD hp Ca new;have B6:∀i∈pa.toList,i < its.length:=fun i hi=>oT.mp (hp.mem_iff.mp hi);have py:(pa.toList.map fun i=>ys.getD i V.aF).Perm ys:=OH V.aF (by rw[kJ];exact hp)
  have Jj:Pm kvs.length pa:=by rw[<-mS,kJ];exact hp
  have pk:(pa.toList.map fun i=>kvs.getD i (([],[]):List Str×List V)).Perm kvs:=OH _ Jj;have pp:rg H mm (pa.toList.map fun i=>ys.getD i V.aF) (pa.toList.map fun i=>kvs.getD i ([],[])):=LY fun i hi=>X4 pr V.aF ([],[]) i (by have:=B6 i hi;omega)
  have ek:(pa.toList.map fun i=>kvs.getD i ([],[])).map (·.1)=pa.toList.map fun i=>(kvs.map (·.1)).getD i []:=by
   rw[vw];refine VO fun i hi=>?_;have:i < kvs.length:=by have:=B6 i hi;omega
   show(kvs.getD i ([],[])).1=_;rw[jO,jO,jk,b4 this];rfl
  have rel:Vals (pa.toList.map fun i=>ys.getD i V.aF) (pa.toList.map fun i=>its.getD i Value.none):=Mz (fun i=>by
   by_cases hi:i < ys.length
   ·obtain⟨u,hu,ru⟩:=rv.get (show ys[i]? = some ys[i] from b4 hi)
    rw[jO,jO,hu,b4 hi];exact ru
   ·rw[jO,jO,Ll (by omega),Ll (by omega)];trivial) pa.toList
  obtain⟨hn,I'⟩:=Inv.sorted (t':=s.toks) I hm mQ k hD new rel (by rw[py.length_eq];exact hz)
  refine⟨.ref D,_,I',rfl,q D _ _ hn py pp pk ?_⟩;rw[ek,List.pairwise_map];exact Ca
 refine aa (Lg ?_ (by rw[aT];omega))
 have ja:(s.heap.push (seqObj "list" its.toArray 0)).get? s.heap.objs.size=some (seqObj "list" its.toArray 0):=cp _ rfl;have hD:∀b o,s.heap.get? b=some o->b≠s.heap.objs.size:=fun b o e=>bx (a9 e);refine aa (eI (md slot_list_sort ⟨_,ja,rfl⟩ entry_list_sort ?_ (args_list_sort _)));have keep:∀b o,s.heap.get? b=some o->(s.heap.push (seqObj "list" its.toArray 0)).get? b=some o:=fun b o e=>a8 _ e
 by_cases h2:its.length < 2
 ·refine X2 ja h2 fun c g kg new=>⟨_,rfl,ai ⟨_,rfl,?_⟩⟩
  refine fin g _ c (List.range its.length).toArray (fun b o _ e=>kg b o (hD b o e) (keep b o e)) (hm.at' fun o e=>kg _ o (hD _ o e) (keep _ o e)) hD (qL _) ?_ ?_
  ·show(List.range its.length).Pairwise _
   have:its.length=0\/its.length=1:=by omega
   rcases this with z|z <;> rw[z]
   ·exact List.Pairwise.nil
   ·exact List.pairwise_singleton _ _
  ·have:(List.range its.length).map (fun i=>its.getD i Value.none)=its:=by
    apply VE
    ·simp
    ·intro i h1 h2;simp[List.getD,h2]
   show g.get? s.heap.objs.size=some (listOf ((List.range its.length).map fun i=>its.getD i Value.none).toArray c);rw[this];exact new
 ·have h2:2<=its.length:=by omega
  obtain⟨g0,Ja,sk⟩:∃g0:Heap,g0.objs.size=0 /\ ∀b,g0.get? b=none:=⟨{ s.heap with objs:= #[] },rfl,fun b=>C8 (bf _)⟩;have F:Fr g0 X.env.locals s.heap m:=⟨hm,fun b o e=>(by rw[sk]at e;cases e),by rw[Ja];exact bf _⟩
  have N:=M3 (g:=g0) (L:=X.env.locals) (h:=s.heap);have hLo:∃o,s.heap.get? X.env.locals=some o:=let ⟨o,_,_,e,_⟩:=hm;⟨o,e⟩;obtain⟨oL,eL⟩:=hLo;refine kat_list_sort (s:={ s with heap:=s.heap.push (seqObj "list" its.toArray 0) }) (F.kept keep) (N.grown keep) ja (aN (hD _ _ eL)) (sk _) (fun p hp=>hD p.1 p.2 (Dv hp).2.2) h2 (by omega) fun e1 h' F' N'=>?_
  have kp:∀b o,b≠X.env.locals->s.heap.get? b=some o->h'.get? b=some o:=fun b o n e=>(N' (b,o) (bq _ (DC n (sk b) e))).1;have tk:∀ {a:Addr}{zs:Array Value},a≠X.env.locals->IsTup s.heap a zs->IsTup h' a zs:=fun n ⟨o,ho,r⟩=>⟨o,kp _ o n ho,r⟩;have ft:∀ (vs:List Value),(∀v∈vs,∃a tu ru ks,v=Value.ref a/\IsTup h' a (tu++ru).toArray/\StrsAre tu ks/\ks.length=mm) -> ∃fs,fs.length=vs.length/\KatTups h' vs fs /\ ∀f∈fs,∃k t,f=Value.str k t:=by
   intro vs
   induction vs with
   |nil=>intro _;exact⟨[],rfl,KatTups.nil,fun f hf=>(by cases hf)⟩
   |cons v vs ih =>
    intro hv;obtain⟨fs,f1,f2,f3⟩:=ih fun v' h'=>hv v' (bq _ h');obtain⟨a,tu,ru,ks,rfl,⟨o,ho,hc,n,hd⟩,st,hkm⟩:=hv v aW;cases st with
    |nil=>simp at hkm;omega
    |cons k t r =>
     refine⟨.str k t::fs,by rw[d7,d7,f1],KatTups.cons ho hc hd (by simp) f2,fun f hf=>?_⟩
     rcases bj.mp hf with z|z
     ·exact⟨k,t,z⟩
     ·exact f3 f z
  obtain⟨fs,hf1,xU,ie⟩:=ft its fun v hv=>by
   obtain⟨i,hi,rfl⟩:=Lc hv;obtain⟨ks,a,tu,ru,_,g2,g3,g4,g5,g6⟩:=at_ i hi;rw[b4 hi]at g2;exact⟨a,tu,ru,ks,gA g2,tk g3 g4,g5,g6⟩
  refine kat_kind (T:= .type "str") xU (by omega) (fun f hf=>?_) (by decide) ?_
  ·obtain⟨k,t,rfl⟩:=ie f hf
   exact Looks.of_pure rfl
  ·refine(X7 O h2).wp (fun i j C hi hj gQ hC=>?_) fun pa hp=>?_
   ·obtain⟨k,a,tu,ru,g1,g2,g3,g4,g5,g6⟩:=at_ i hi
    obtain⟨k',a',tu',ru',g1',g2',g3',g4',g5',g6'⟩:=at_ j hj;unfold kas_ask;rw[jO,jO,g2,g2'];have ei:(kvs.map (·.1)).getD i []=k:=by rw[jO,g1];rfl
    have ej:(kvs.map (·.1)).getD j []=k':=by rw[jO,g1'];rfl
    have el:lt i j=iM k k':=by show iM ((kvs.map (·.1)).getD i []) ((kvs.map (·.1)).getD j [])=_;rw[ei,ej]
    have ne:=sq i j hi hj gQ;rw[ei,ej]at ne;rw[el]at hC;obtain⟨ox,hx,_,nx,dx⟩:=tk g3 g4;obtain⟨oy,hy,_,ny,dy⟩:=tk g3' g4';exact kat_lt hx dx hy dy (MK 0 g5 g5' (g6.trans g6'.symm) ne hC)
   ·refine KasFin.intro F' N' (UpdF.head fun p hp=>?_) fun iL c F'' R'=>?_
    ·exact hD p.1 p.2 (Dv hp).2.2
    ·refine⟨_,rfl,ai ⟨_,rfl,?_⟩⟩
     exact fin iL _ c pa (fun b o n e=>(R' (b,o) (bq _ (DC n (sk b) e))).1) F''.ns hD hp.1 (abg hp.1.size hp.2) (R' _ aW).1
theorem LD:eu X (.builtin "sorted") (fun xs H Q=>∃ (p:Addr) (ys:List V) (kvs:List (List Str×List V)) (m:Nat),xs = [.ref p]/\(ak X.K H p ys\/aE X.K H p ys)/\rg H m ys kvs/\1<=m/\(kvs.map (·.1)).Nodup/\ys.length<=63 /\
  ∀D iK eM,H D=none->iK.Perm ys->rg H m iK eM->eM.Perm kvs->(eM.map (·.1)).Pairwise (fun a b=>iM a b=true)->Q (.ref D) (upd H D (.lst iK))):=by
 intro pins s σ H xs us Q I r ⟨p,ys,kvs,mm,ex,hq,pr,Jh,nd,sj,q⟩;subst ex;obtain⟨u,rfl,rx⟩:=vals1 r;cases rx
 refine X9 fun A E Q' _ q'=>?_;rcases hq with hq|hq
 ·obtain⟨its,rv,pl,hz⟩:=I.list hq
  have:=rv.length;exact collect_list pl.isList (q' its _ H ys kvs mm (I.kept (t':=s.toks) fun b o e=>(qI _ _ (oV (a9 e))).trans (a8 _ e)) rv pr Jh nd sj q) (by rw[aT];omega)
 ·obtain⟨its,rv,pl,hz⟩:=I.tuple hq
  have:=rv.length;exact WR pl (by rw[aT];omega) fun h' k=>q' its _ H ys kvs mm (I.kept (t':=s.toks) k) rv pr Jh nd sj q
end L2
namespace L2
open PySem PySem.Spec PyProof.Rows PySem.W
mutual
inductive Dt (p:Addr) (H:Hp):V->PyData->Prop where
 |aF:Dt p H .aF .none
 |bl (b:Bool):Dt p H (.bl b) (.bool b)
 |int (i:Int):Dt p H (.int i) (.int i)
 |str (x:Str):Dt p H (.str x) (.str x)
 |lst {a:Addr}{xs:List V}{ds:List PyData}:a≠p->H a=some (.lst xs)->dw p H xs ds->Dt p H (.ref a) (.list ds)
 |tup {a:Addr}{xs:List V}{ds:List PyData}:a≠p->H a=some (.tup xs)->dw p H xs ds->Dt p H (.ref a) (.tuple ds)
 |qe {a:Addr}:a≠p->H a=some (.dK [])->Dt p H (.ref a) (.dict [])
inductive dw (p:Addr) (H:Hp):List V->List PyData->Prop where
 |nil:dw p H [] []
 |cons {x:V}{d:PyData}{xs:List V}{ds:List PyData}:Dt p H x d->dw p H xs ds->dw p H (x::xs) (d::ds)
end
section
mutual
theorem Dt.keep (k:∀b o,H b=some o->b≠p->H' b=some o):∀ {v:V}{d:PyData},Dt p H v d->Dt p H' v d
 |_,_,.aF=>.aF
 |_,_,.bl b=>.bl b
 |_,_,.int i=>.int i
 |_,_,.str x=>.str x
 |_,_,.lst n e rs=>.lst n (k _ _ e n) (dw.keep k rs)
 |_,_,.tup n e rs=>.tup n (k _ _ e n) (dw.keep k rs)
 |_,_,.qe n e=>.qe n (k _ _ e n)
theorem dw.keep (k:∀b o,H b=some o->b≠p->H' b=some o):∀ {vs:List V}{ds:List PyData},dw p H vs ds->dw p H' vs ds
 |_,_,.nil=>.nil
 |_,_,.cons r rs=>.cons (Dt.keep k r) (dw.keep k rs)
end
end
end L2
namespace HT
open PySem PyProof.Rows
section
open PySem.SeqAt
open PySem.AutoSeq1 (wpAny_loadPart')
open PySem.MeetsSeq PySem.MeetsSeq2 PySem.MeetsSeq3
end
end HT
namespace L2
open PySem PySem.Spec PyProof.Rows PySem.W HT
section
mutual
theorem Dt.reads (I:Inv X pins σ H s):∀ {v:V}{d:PyData}{u:Value},Dt p H v d->RelV v u -> ∃as,Reads s.heap u d as
 |_,_,_,.aF,r=>by cases r;exact⟨_,.none⟩
 |_,_,_,.bl b,r=>by cases r;exact⟨_,.bool b⟩
 |_,_,_,.int i,r=>by obtain⟨t,rfl⟩:=r;exact⟨_,.int i t⟩
 |_,_,_,.str x,r=>by obtain⟨t,rfl⟩:=r;exact⟨_,.str x t⟩
 |_,_,_,.lst (a:=a) (xs:=xs) _ e rs,r=>by
  cases r
  obtain⟨_,its,n,rv,at_⟩:=(show bu X.prog X.w H s.heap a (.lst xs) from I.au a _ e);obtain⟨as,ra⟩:=dw.reads I rs rv;exact⟨_,.list at_ rfl rfl ra⟩
 |_,_,_,.tup (a:=a) (xs:=xs) _ e rs,r=>by
  cases r
  obtain⟨_,its,rv,ob,at_,hc,n,hd,_⟩:=(show bu X.prog X.w H s.heap a (.tup xs) from I.au a _ e);obtain⟨as,ra⟩:=dw.reads I rs rv;exact⟨_,.tuple at_ hc hd ra⟩
 |_,_,_,.qe (a:=a) _ e,r=>by
  cases r
  obtain⟨_,_,vs,kv,o,es,ep,g1,g2,g3,_,g4,_⟩:=(show bu X.prog X.w H s.heap a (.dK []) from I.au a _ e);cases kv
  have e0:es.toList = []:=by cases h:es.toList with
   |nil=>rfl
   |cons a b=>rw[h]at g4;cases g4
  exact⟨_,.dict (kvs:= []) g1 g2.1 g3 (by rw[e0];exact .nil) (by rw[e0];exact .nil)⟩
theorem dw.reads (I:Inv X pins σ H s):∀ {vs:List V}{ds:List PyData}{us:List Value},dw p H vs ds->Vals vs us -> ∃as,ReadsAll s.heap us ds as
 |_,_,_,.nil,r=>by cases r;exact⟨_,.nil⟩
 |_,_,_,.cons r rs,rv=>by
  cases rv with
  |cons q qs =>
   obtain⟨as,h1⟩:=Dt.reads I r q;obtain⟨bs,h2⟩:=dw.reads I rs qs;exact⟨_,.cons h1 h2⟩
end
mutual
theorem Dt.wC (I:Inv X pins σ H s):∀ {v:V}{d:PyData}{u:Value},Dt p H v d->RelV v u->d.showable=true->d.shown.length<=sizeLine -> ∃bs,ReadAtMost s.heap d.depth bs/\ReprK X.prog X.w bs s.heap d.depth u d.shown
 |_,_,_,.aF,r,_,_=>by cases r;exact⟨[],(fun _ h=>nomatch h),by simp only[PyData.shown];exact .of_is ReprIs.none _ _ _⟩
 |_,_,_,.bl b,r,_,_=>by cases r;exact⟨[],(fun _ h=>nomatch h),by simp only[PyData.shown];exact .of_is (ReprIs.bool b) _ _ _⟩
 |_,_,_,.int i,r,hs,_=>by obtain⟨t,rfl⟩:=r;exact⟨[],(fun _ h=>nomatch h),by simp only[PyData.shown];exact .of_is (ReprIs.int t (by simpa [PyData.showable] using hs)) _ _ _⟩
 |_,_,_,.str x,r,_,hz=>by obtain⟨t,rfl⟩:=r;exact⟨[],(fun _ h=>nomatch h),by simp only[PyData.shown];exact .of_is (ReprIs.str x t (by simpa only [PyData.shown] using hz)) _ _ _⟩
 |_,_,_,.lst (a:=a) (xs:=xs) (ds:=ds) n e rs,r,hs,hz=>by
  cases r
  obtain⟨_,its,n',rv,h1⟩:=(show bu X.prog X.w H s.heap a (.lst xs) from I.au a _ e);have uV:(listText (PyData.shownAll ds)).length<=sizeLine:=by simpa only [PyData.shown] using hz
  obtain⟨bs,hb,hk⟩:=dw.wC I rs rv (by simpa [PyData.showable] using hs) (fun t ht=>fw (listText_mem_le ht) uV)
  obtain⟨as,ra⟩:=dw.reads I rs rv;have r:Reads s.heap (.ref a) (.list ds) _:= .list h1 rfl rfl ra;have Jk:a ∉ bs:=not_mem_of_deeper r (by simp only[PyData.depth];omega) hb
  refine⟨a::bs,VP r (by simp only[PyData.depth];omega) hb,?_⟩
  simp only[PyData.depth,PyData.shown];cases its with
  |nil =>
   cases ra
   simp only[PyData.shownAll,listText_nil];exact ReprK.listEmpty h1 rfl rfl
  |cons x l=>exact ReprK.list h1 rfl rfl Jk (by simpa using hk.length_eq) (fun i y e=>hk.item i y (by simpa using e))
 |_,_,_,.tup (a:=a) (xs:=xs) (ds:=ds) n e rs,r,hs,hz=>by
  cases r
  obtain⟨_,its,rv,ob,h1,h2,n',h3,_⟩:=(show bu X.prog X.w H s.heap a (.tup xs) from I.au a _ e);have uV:(tupleText (PyData.shownAll ds)).length<=sizeLine:=by simpa only [PyData.shown] using hz
  obtain⟨bs,hb,hk⟩:=dw.wC I rs rv (by simpa [PyData.showable] using hs) (fun t ht=>fw (tupleText_mem_le ht) uV)
  obtain⟨as,ra⟩:=dw.reads I rs rv;have r:Reads s.heap (.ref a) (.tuple ds) _:= .tuple h1 h2 h3 ra;have Jk:a ∉ bs:=not_mem_of_deeper r (by simp only[PyData.depth];omega) hb
  refine⟨a::bs,VP r (by simp only[PyData.depth];omega) hb,?_⟩
  simp only[PyData.depth,PyData.shown];exact ReprK.tuple h1 h2 h3 Jk hk
 |_,_,_,.qe (a:=a) n e,r,hs,hz=>by
  cases r
  obtain⟨as,rd⟩:=Dt.reads I (.qe n e) (rfl:RelV (.ref a) (.ref a));obtain⟨_,ns,vs,kv,o,es,ep,g1,g2,g3,_,g4,_⟩:=(show bu X.prog X.w H s.heap a (.dK []) from I.au a _ e);cases kv
  have e0:es.toList = []:=by cases h:es.toList with
   |nil=>rfl
   |cons a b=>rw[h]at g4;cases g4
  refine⟨a :: [],VP rd (bf _) (fun _ h=>nomatch h),?_⟩;exact ReprK.dict (as:= []) (d:=0) (ps:= []) g1 g2.1 g3 ns (by simp) (by rw[e0];exact .nil)
theorem dw.wC (I:Inv X pins σ H s):∀ {vs:List V}{ds:List PyData}{us:List Value},dw p H vs ds->Vals vs us->PyData.showableAll ds=true->(∀t∈PyData.shownAll ds,t.length<=sizeLine) ->
  ∃bs,ReadAtMost s.heap (PyData.depthAll ds) bs/\ReprAllK X.prog X.w bs s.heap (PyData.depthAll ds) us (PyData.shownAll ds)
 |_,_,_,.nil,r,_,_=>by cases r;exact⟨[],(fun _ h=>nomatch h),by simp only[PyData.shownAll];exact .nil⟩
 |_,_,_,.cons (d:=d) (ds:=ds) r rs,rv,hs,hz=>by
  cases rv with
  |cons q qs =>
   have kO:d.showable=true/\PyData.showableAll ds=true:=by simpa [PyData.showableAll] using hs
   obtain⟨b1,ik,k1⟩:=Dt.wC I r q kO.1 (hz _ (by simp only[PyData.shownAll];exact aW ..))
   obtain⟨b2,IK,k2⟩:=dw.wC I rs qs kO.2 (fun t ht=>hz t (by simp only[PyData.shownAll];exact bq _ ht))
   refine⟨b1++b2,?_,?_⟩
   ·simp only[PyData.depthAll]
    exact(ik.mono (VQ _ _)).append (IK.mono (VR _ _))
   ·simp only[PyData.depthAll,PyData.shownAll]
    exact .cons ((k1.more fun b hb=>nu _ hb).level_le (VQ _ _)) (k2.more_le (fun b hb=>fH _ hb) (VR _ _))
end
end
end L2
namespace HS
open PySem PySem.Spec PyProof.Rows PySem.W
theorem Nt {vs:List Value}{ys:List Str}{y:Str}{t:Tok}{j:Nat}{Q:Option PySem.Fin×Unit->Shared->Prop} (st:StrsAre vs ys) (hj:ys[j]? = some y) (gq:∀m,m < j->ys[m]? ≠ some y) (q:∀tk,Q (some (.done (.ret (.int j tk))),()) { s with toks:=s.toks+1 }) :
  ∀ (k i:Nat),i<=j->j < i+k->wpAny (model P w) A (forIn (m:=Sem) (List.range' i k) ((none,()):Option PySem.Fin×Unit) fun(i:Nat) __s=>match vs.toArray[i]? with
      |some y'=>do
       let b <- eqBool y' (.str y t)
       if b=true then do
         let r <- retInt (i:Int)
         pure (ForInStep.done (some r,()))
        else pure (ForInStep.yield (none,()))
      |_=>pure (ForInStep.yield (none,()))) Q E s
 |0,i,h1,h2=>absurd h2 (by omega)
 |k+1,i,h1,h2=>by
  rw[List.range'_succ,List.forIn_cons];have hlen:=tQ st;have b6:j < ys.length:=(cu.mp hj).1;have hi:i < vs.length:=by omega
  obtain⟨tk,ev⟩:=L2.EA st i vs[i] (b4 hi);have Jl:i < ys.length:=by omega
  have e1:vs.toArray[i]? = some (.str ys[i] tk):=by
   rw[List.getElem?_toArray,b4 hi,ev];simp[Jl]
  rw[e1]
  dsimp only
  refine aa (aa (U7 ?_))
  by_cases e:ys[i]=y
  ·rw[fY e,ax rfl]
   have:i=j:=by
    by_cases z:i < j
    ·exact absurd (by rw[b4 Jl,e]) (gq i z)
    ·omega
   subst this;refine aa ?_;unfold retInt;exact aa (wpAny_mkInt (ai (ai (ai (q _)))))
  ·rw[ji e,aj cw]
   refine ai ?_;refine Nt st hj gq q k (i+1) ?_ (by omega)
   by_cases z:i=j
   ·subst z
    rw[b4 Jl]at hj;exact absurd (gA hj) e
   ·omega
theorem X' {vs:List Value}{ys:List Str}{y:Str}{t:Tok} (ht:IsTup s.heap l vs.toArray) (st:StrsAre vs ys) (hj:ys[j]? = some y) (gq:∀m,m < j->ys[m]? ≠ some y) (q:∀tk,Q (.int j tk) { s with toks:=s.toks+1 }) :
  wpAny (model P w) A (call (.builtin "tuple.index") [.ref l,.str y t]) Q E s:=by
 obtain⟨o,ho,hc,n,hd⟩:=ht;have b6:j < ys.length:=(cu.mp hj).1;have hlen:=tQ st;refine md an0 ⟨o,ho,hc⟩ PySem.F.entry_tuple_index ?_ (PySem.F.args_tuple_index_2 _ _);unfold Builtin.«tuple.index»;refine aa (ai ?_)
 dsimp only
 refine aa ?_;unfold Builtin.Tuple.tupleItemsOf seqItems?;refine aa (aa (zb ho ?_));rw[hd];refine ai (ai ?_);refine aa (ai (aa (ai ?_)));rw[Std.Legacy.Range.forIn_eq_forIn_range'];refine aa ?_;have e2:([0:min vs.toArray.size vs.toArray.size]:Std.Legacy.Range).size=vs.length:=by simp[Std.Legacy.Range.size]
 rw[e2];refine Nt st hj gq (fun tk=>?_) vs.length 0 (bf _) (by omega)
 exact ai ⟨_,rfl,q tk⟩
end HS
namespace L2
open PySem PySem.Spec PyProof.Rows PySem.W HS
def aaa (K:Frag):V->List V->Hp->VK->Prop:=fun x vs H Q=>∃ (l:Addr) (ys:List Str) (y:Str) (j:Nat),x = .ref l/\vs = [.str y]/\aE K H l (ys.map V.str)/\ys[j]? = some y/\(∀m,m < j->ys[m]? ≠ some y)/\Q (.int j) H
theorem Ya:uO X "tuple.index" (aaa X.K):=by
 intro pins s σ H x vs v us Q I rx rv h;obtain⟨l,ys,y,j,rfl,rfl,hH,hj,gq,q⟩:=h;cases rx
 obtain⟨u,rfl,t,rfl⟩:=rv.one;obtain⟨its,r,pl,hz⟩:=I.tuple hH;exact X' pl (vC r) hj gq fun tk=>⟨.int j,H,I.tok _,⟨tk,rfl⟩,q⟩
end L2
namespace L2
open PySem PySem.W PySem.Spec PyProof.Rows
end L2
namespace L2
open PySem PySem.W
end L2
namespace L2
open PySem PySem.W PySem.Spec PyProof.Rows
def rH (h:Heap) (d:Addr) (es:Array DictEntry) (ep:Nat):Prop:= ∃o,h.get? d=some o/\o.ExactDict/\o.data = .dict es ep
theorem rH.ty {es:Array DictEntry} (x:rH s.heap d es ep):s.TypeIs (.ref d) "dict" :=let ⟨o,e,c,_⟩:=x;⟨o,e,c.1⟩
theorem Paired.get {α β:Type}{F:α->β->Prop}{l:List α}{m:List β} (h:Paired F l m):∀ {i:Nat}{a:α},l[i]? = some a -> ∃b,m[i]? = some b/\F a b:=by
 induction h with
 |nil=>intro i a e;cases e
 |cons r _ ih =>
  intro i a e;cases i with
  |zero=>cases e;exact⟨_,rfl,r⟩
  |succ i=>exact ih (by simpa using e)
theorem Inv.aab {σ:List (Option V)} (I:Inv X pins σ H s) (hd:H d=some (.dT kvs)) (ho:s.heap.get? d=some o):Inv X pins σ (upd H d (.cq o (.dT kvs))) s:=by
 have ok:bu X.prog X.w H s.heap d (.dT kvs):=I.au d _ hd;have nd:∀ {b:Addr}{u:HO},H b=some u->u ≠ .dT kvs->b≠d:=fun e n z=>by rw[z,hd]at e;exact n (gA e).symm
 refine I.un (h':=s.heap) (t':=s.toks) ⟨fun b ob q _ _ _=>q,fun b ob q _ _ _=>⟨ob.slots,q⟩,fun b ob q n _=>?_,fun b ob q _=>⟨ob,q⟩,fun b xs e=>?_,fun b ob u e=>?_,fun b ps e=>⟨#[],?_⟩⟩ fun b u e=>?_
 ·rw[ag (fun z=>by rw[z,hd]at n;cases n)];exact n
 ·rw[ag (nd e (by intro z;cases z))];exact e
 ·rw[ag (nd e (by intro z;cases z))];exact e
 ·rw[ag (nd e (by intro z;cases z)),e];simp
 ·by_cases hb:b=d
  ·subst hb
   rw[af]at e;cases e
   exact⟨ho,ok.hW (fun _ _ _ q=>q) (fun c q=>by rw[ag (nd q (by intro z;cases z))];exact q) fun c xs q=>by rw[ag (nd q (by intro z;cases z))];exact q⟩
  ·rw[ag hb]at e
   exact(I.au b u e).hW (fun _ _ _ q=>q) (fun c q=>by rw[ag (nd q (by intro z;cases z))];exact q) fun c xs q=>by rw[ag (nd q (by intro z;cases z))];exact q
theorem Inv.ab6 {σ:List (Option V)} (I:Inv X pins σ H s) (hd:H d=some (.cq o (.dT kvs))) (h0:∀o u,X.my d≠some (.cq o u)):Inv X pins σ (upd H d (.dT kvs)) s:=by
 obtain⟨_,ok⟩:=(show bu X.prog X.w H s.heap d (.cq o (.dT kvs)) from I.au d _ hd);have nd:∀ {b:Addr}{u:HO},H b=some u->u ≠ .cq o (.dT kvs)->b≠d:=fun e n z=>by rw[z,hd]at e;exact n (gA e).symm
 have nn:∀ {b:Addr},H b=none->upd H d (.dT kvs) b=none:=fun {b} e=>by rw[ag (fun z=>by rw[z,hd]at e;cases e)];exact e
 refine⟨I.ok,I.os,I.bare,⟨I.base.keep,I.base.slot,fun b ob e n hx=>nn (I.base.free b ob e n hx),I.base.there,fun b xs e=>?_,fun b ob u e=>?_,fun b ps e=>?_⟩,I.loc,I.cell,nn I.free,fun x c e=>nn (I.gN x c e),fun p hp=>?_,fun b u e=>?_,I.len⟩
 ·rw[ag (nd (I.base.jt b xs e) (by intro z;cases z))];exact I.base.jt b xs e
 ·have hb:b≠d:=fun z=>h0 ob u (z ▸ e)
  rw[ag hb];exact I.base.ju b ob u e
 ·obtain⟨more,e2⟩:=I.base.jU b ps e
  exact⟨more,by rw[ag (nd e2 (by intro z;cases z))];exact e2⟩
 ·obtain⟨a1,a2,a3⟩:=I.pin p hp
  exact⟨a1,nn a2,a3⟩
 ·by_cases hb:b=d
  ·subst hb
   rw[af]at e;cases e
   exact ok.hW (fun _ _ _ q=>q) (fun c q=>by rw[ag (nd q (by intro z;cases z))];exact q) fun c xs q=>by rw[ag (nd q (by intro z;cases z))];exact q
  ·rw[ag hb]at e
   exact(I.au b u e).hW (fun _ _ _ q=>q) (fun c q=>by rw[ag (nd q (by intro z;cases z))];exact q) fun c xs q=>by rw[ag (nd q (by intro z;cases z))];exact q
def ab7 (H0:Hp) (t:TE):TE:=fun σ H Q=>t σ H fun v H'=>∃d o kvs,H' d=some (.cq o (.dT kvs))/\(∀o u,H0 d≠some (.cq o u))/\Q v (upd H' d (.dT kvs))
theorem aac (he:PE X e te):PE X e (ab7 X.my te):=by
 intro pins s σ H Q I h;exact aw (he pins s σ H _ I h) fun v s1 ⟨y,H1,I1,r1,d,o,kvs,e1,h0,q⟩=>⟨y,_,I1.ab6 e1 h0,r1,q⟩
end L2
namespace HT
open PySem PyProof.Rows PySem.W
open PySem.AutoSeq1 (wpAny_loadPart')
end HT
namespace L2
open PySem PySem.Spec PyProof.Rows PySem.W HT
end L2
namespace L2
open PySem PySem.W PySem.Spec PyProof.Rows
theorem Yb:eu X (.type "int") (fun xs H Q=>∃b,xs = [.bl b]/\Q (.int (if b then 1 else 0)) H):=by
 intro pins s σ H xs us Q I r h;obtain⟨b,rfl,q⟩:=h;obtain⟨u,rfl,rx⟩:=vals1 r;cases rx
 exact call_int_bool ⟨.int _,H,I.tok _,⟨_,rfl⟩,q⟩
end L2
namespace L2
open PySem PySem.Spec PyProof.Rows PySem.W HS
structure vN (e tg iter:Expr) (ifs:List Expr) (emit:Value->Env->Sem Unit):Prop where
 cl:clausesOf e = [⟨tg,iter,ifs,0⟩]
 turn:∀it acc env,compTurn e 0 it acc env=(do
   standAt iter.pos
   match <- pyNext it with
   |none=>pure (.done .next)
   |some v =>
    letOwnedTupleGo tg it v
    assign tg env v
    let mut ok:=true
    for c in ifs do
     if ok then ok <- isTrue c env (eval c env)
    if ok then emit acc env
    again (.compLoop e 0 it acc env))
 loop:∀ (prog:Program) (w:World) (A:Around) it acc env,A.under (.compLoop e 0 it acc env)=A/\(model prog w).den (.compLoop e 0 it acc env)=(compTurn e 0 it acc env).onRaise (fun x=>do noteFrame x env;theTreesLotGoes x)
 begin_:∀ (prog:Program) (w:World) (A:Around) it acc env,A.under (.compStart e 0 it acc env)=A/\(model prog w).den (.compStart e 0 it acc env)=(compStart e 0 it acc env).onRaise (fun x=>do noteFrame x env;standAt theWindowsPlace)
def zL (k v:Expr) (acc:Value) (env:Env):Sem Unit:=do
 let kv <- eval k env
 let vv <- holding [kv] (eval v env)
 match acc with
 |.ref d=>do
  standAt { k.pos with endLine:=v.pos.endLine,endCol:=v.pos.endCol }
  holding [kv,vv] (dictSet d kv vv)
 |_=>unsupported "internal:dictcomp"
theorem Yc {k v:Expr}:vN (.DictComp k v [⟨tg,iter,ifs,0⟩] scope pos) tg iter ifs (zL k v):=⟨rfl,fun _ _ _=>rfl,fun _ _ _ _ _ _=>⟨rfl,rfl⟩,fun _ _ _ _ _ _=>⟨rfl,rfl⟩⟩
theorem Wg {R:Result->Shared->Prop}{emit:Value->Env->Sem Unit}{it:Value} (F:vN e tg iter ifs emit) (I:Nat->Shared->Prop)
  (turn:∀n s,I n s->wpAny (model prog w) A (pyNext it) (fun r s1=>match r with
   |none=>R (.ok .next) s1
   |some v=>wpAny (model prog w) A (letOwnedTupleGo tg it v) (fun _ s2=>wpAny (model prog w) A (assign tg env v) (fun _ s3 =>
     wpAny (model prog w) A (forIn ifs true fun c r=>if r=true then do let ok <- isTrue c env (eval c env);pure (ForInStep.yield ok) else pure (ForInStep.yield r)) (fun ok s4 =>
      if ok=true then wpAny (model prog w) A (emit acc env) (fun _ s6=>∃m,m < n/\I m s6) (fun _ _=>False) s4
      else ∃m,m < n/\I m s4) (fun _ _=>False) s3) (fun _ _=>False) s2) (fun _ _=>False) s1) (fun _ _=>False) s)
  (n:Nat) (h:I n s) :
  codeAny (model prog w) A (.compLoop e 0 it acc env) R s:=by
 refine codeAny_loop rfl I (fun n s hI=>?_) n h;rw[(F.loop prog w A it acc env).1,(F.loop prog w A it acc env).2];refine wpAny_noted (K0 ?_);rw[F.turn];refine aa (nC (aa (aw (turn n s hI) fun r s1 h1=>?_)));cases r with
 |none=>exact ai h1
 |some v =>
  refine aa (aw h1 fun _ s2 h2=>aa (aw h2 fun _ s3 h3=>aa (aw h3 fun ok s4 h4=>?_)));cases ok with
  |false=>exact ai ⟨rfl,h4⟩
  |true=>exact aa (aw h4 fun x s5 h5=>ai ⟨rfl,h5⟩)
theorem Wb {R:Result->Shared->Prop}{emit:Value->Env->Sem Unit}{it:Value} (F:vN e tg iter ifs emit)
  (h0:codeAny (model prog w) A (.compLoop e 0 it acc env) R s)
  (h:wpAny (model prog w) A (pyIter it) (fun Jm s'=>codeAny (model prog w) A (.compLoop e 0 Jm acc env) R s')
   (notedBy (model prog w) A env fun x s'=>R (.error x) s') s) :
  codeAny (model prog w) A (.compStart e 0 it acc env) R s:=by
 refine K1 ?_;rw[(F.begin_ prog w A it acc env).1,(F.begin_ prog w A it acc env).2];refine wpAny_notedAt ?_;unfold compStart;rw[F.cl];show wpAny _ _ (ask >>= _) _ _ s;refine aa (nH (wpAny_ite ?_));split
 ·first
   |exact aa (ai (ai (And.intro rfl h0)))
   |exact ai (And.intro rfl h0)
 ·first
   |exact aa (oU (aa (nC (aa (lZ h (fun Jm s' h'=>ai (And.intro rfl h')) fun _ _ x=>x)))))
   |(refine aa (oU ?_);show wpAny _ _ (standAt iter.pos >>= _) _ _ s;exact aa (nC (aa (lZ h (fun Jm s' h'=>ai (And.intro rfl h')) fun _ _ x=>x))))
def EZ (J:It) (g:TG) (ti:TT) (tem:Addr->St->Hp->(Hp->Prop)->Prop) (iI:St) (Q:VK) (p:Addr) (H1:Hp):Prop:=
 ∃W:Nat->Nat->St->Hp->Prop,(∃m,W 0 m iI H1) /\ ∀i m τ H2,W i m τ H2 ->
  ((J.stop i H2/\Q (.ref p) H2)\/(J.go i H2 /\ ∀x H3,J.pW i H2 x H3->g x τ H3 fun cz H4=>ti cz H4 fun b H5 =>
   if b=true then tem p cz H5 fun H6=>∃m',m' < m/\W (i+1) m' cz H6
   else ∃m',m' < m/\W (i+1) m' cz H5))
def Cb (X:Cx) (emit:Value->Env->Sem Unit) (tem:Addr->St->Hp->(Hp->Prop)->Prop):Prop:=
 ∀ (pins:List (Addr×Obj)) (s:Shared) (σ:St) (H:Hp) (p:Addr) (Q:Hp->Prop),Inv X pins σ H s->tem p σ H Q->wpAny (model X.prog X.w) X.A (emit (.ref p) X.env) (fun _ s'=>∃H',Inv X pins σ H' s'/\Q H') X.xe s
structure E1 (X:Cx) (rh:Sem Value) (start:Addr->HO):Prop where
 run:∀ (pins:List (Addr×Obj)) (s:Shared) (σ:St) (H:Hp) (E:Value->Shared->Prop) (Q:Value->Shared->Prop),Inv X pins σ H s ->
  (∀s',Inv X pins σ (upd H s.heap.objs.size (start s.heap.objs.size)) s'->(∀b o,s.heap.get? b=some o->s'.heap.get? b=some o)->Q (.ref s.heap.objs.size) s')->wpAny (model X.prog X.w) X.A rh Q E s
def OJ (wi:TI) (b5:List (Option Nat)) (g:TG) (ti:TT) (tem:Addr->St->Hp->(Hp->Prop)->Prop) (start:Addr->HO):TE:=fun σ H Q=>wi σ H fun J H1=>∀p,H1 p=none->EZ J g ti tem (pick b5 σ) Q p (upd H1 p (start p))
section
variable{emit:Value->Env->Sem Unit}{tem:Addr->St->Hp->(Hp->Prop)->Prop}
theorem Xu {J:It}{tn:Nat->Heap->Prop}{g:TG}{Q:VK}{RR:Value->Addr->Result->Shared->Prop}{rh:Sem Value}{start:Addr->HO} (F:vN e tg iter ifs emit) (hc:X.calm=true) (S:cK X.N X.env.scope N' b5 scope)
  (I2:Inv X pins σ H2 s2) (T:Turn X.prog X.w X.K tg J fp it tn) (st:tn 0 s2.heap) (hf:∀b∈fp,iC X pins H2 b) (F6:E1 X rh start)
  (hb:∀s H fp,PG (cM X N' scope s H fp) tg g/\pM (cM X N' scope s H fp) ifs ti/\Cb (cM X N' scope s H fp) emit tem)
  (hw:∀p,H2 p=none->EZ J g ti tem (pick b5 σ) Q p (upd H2 p (start p))) (hR:∀acc C s',CompEnd X pins σ Q acc C s'->RR acc C (.ok .next) s') :
  wpAny (model X.prog X.w) X.A rh (fun acc s3=>wpAny (model X.prog X.w) X.A (newFunctionEnv scope X.env.globals (gO X.env.cells scope.names []) [] X.env.qual none .none (some X.env)) (fun wX s4 =>
   codeAny (model X.prog X.w) X.A (.compStart e 0 (.ref it) acc { wX with scope:=relabel scope X.env }) (RR acc wX.locals) s4) E s3) E s2:=by
 refine F6.run pins s2 σ H2 E _ I2 fun s3 I3 get3=>?_;have hp:=hw s2.heap.objs.size I2.fresh;generalize eH:upd H2 s2.heap.objs.size (start s2.heap.objs.size)=H3 at I3 hp;have i5:∀b∈fp,b < s2.heap.objs.size:=fun b hb=>let ⟨_,e,_⟩:=T.obj _ _ st b hb;a9 e;have lK:tn 0 s3.heap:=T.keep _ _ _ st fun b _ o e=>get3 b o e;have ie:∀b∈fp,iC X pins H3 b:=fun b hb=>⟨by rw[<-eH,ag (bx (i5 b hb))];exact(hf b hb).1,(hf b hb).2⟩
 have pZ:∀b∈fp,∃o,s3.heap.get? b=some o:=fun b hb=>let ⟨o,e,_⟩:=T.obj _ _ lK b hb;⟨o,e⟩;refine LL fun h4 hn hk jz IM=>?_;have I4:Inv (cM X N' scope s3 H3 fp) [] (pick b5 σ) H3 { s3 with heap:=h4 }:=M8 I3 S ie pZ hn hk jz IM;have xP:tn 0 ({ s3 with heap:=h4 }:Shared).heap:=T.keep _ _ _ lK fun b _ o e=>hk b o e;obtain⟨hG,hI,hE⟩:=hb s3 H3 fp;obtain⟨W,⟨m0,w0⟩,turn⟩:=hp;have lC:∀ {H':Hp},(∀b∈fp,H' b=none) -> ∀b∈fp,iC (cM X N' scope s3 H3 fp) [] H' b:=fun hn b hb =>
  ⟨hn b hb,(I4.ok.om b hb).1,I4.ok.nX b hb,.inl hb,fun x c e=>(I4.ok.om b hb).2 x c e,fun p hp=>absurd (show p∈([]:List (Addr×Obj)) from hp) (by simp)⟩
 have loop:codeAny (model X.prog X.w) X.A (.compLoop e 0 (.ref it) (.ref s2.heap.objs.size) (D6 scope s3.heap.objs.size X.env))
   (RR (.ref s2.heap.objs.size) s3.heap.objs.size) { s3 with heap:=h4 }:=by
  refine Wg F (fun n s'=>∃i τ H',Inv (cM X N' scope s3 H3 fp) [] τ H' s'/\tn i s'.heap/\(∀b∈fp,H' b=none)/\W i n τ H') ?_ m0 ⟨0,_,H3,I4,xP,fun b hb=>(ie b hb).1,w0⟩;rintro n s5 ⟨i,τ,H5,I5,oz,lL,w5⟩;have w5:=turn i n τ H5 w5;rcases w5 with⟨stop,qn⟩|⟨go,step⟩
  ·refine aw (T.done (cM X N' scope s3 H3 fp) rfl rfl rfl hc i [] s5 τ H5 _ I5 (lC lL) oz stop) fun r s6 ⟨hr,I6⟩=>?_
   subst hr;refine hR _ _ _ ⟨_,H5,rfl,?_,?_,?_,qn⟩
   ·exact I3.Am (s':=s6) (ch:=fp) I6.os I6.base I6.au I6.bare fun b hb=>⟨(ie b hb).2.2.2.1,(ie b hb).2.1,(ie b hb).2.2.2.2.1,(ie b hb).2.2.2.2.2⟩
   ·exact I3.mE (aP _) I6.free
   ·obtain⟨m,hm,_⟩:=I6.loc
    exact⟨m,hm⟩
  ·refine aw (T.item (cM X N' scope s3 H3 fp) rfl rfl rfl hc i [] s5 τ H5 _ I5 (lC lL) oz go) fun r s6 ⟨u,hr,h6⟩=>?_
   subst hr;refine aw h6 fun _ s7 ⟨x,H7,I7,r7,y7,sg,IP⟩=>?_;have IQ:=I7.pinned (lC IP) (T.obj _ _ sg);refine aw (hG _ s7 τ H7 x u _ IQ r7 (step x H7 y7)) fun _ s8 ⟨uR,H8,I8,q8⟩=>?_;refine aw (hI _ s8 uR H8 _ I8 q8) fun b s9 ⟨H9,I9,q9⟩=>?_;have again:∀ {gH:St}{H':Hp}{s':Shared}{m':Nat},Inv (cM X N' scope s3 H3 fp) ([]++t5 fp s7.heap) gH H' s'->m' < n->W (i+1) m' gH H' ->
     ∃m,m < n /\ ∃i τ H',Inv (cM X N' scope s3 H3 fp) [] τ H' s'/\tn i s'.heap/\(∀b∈fp,H' b=none)/\W i m τ H':=fun {gH H' s' m'} I' hm w'=>by
    refine⟨m',hm,i+1,gH,H',I'.vL,T.keep _ _ _ sg fun b hb o e=>(I'.pin (b,o) (fH _ (fH _ (tE hb e)))).1,fun b hb=>?_,w'⟩;obtain⟨o,e,d⟩:=T.obj _ _ sg b hb;exact(I'.pin (b,o) (fH _ (fH _ (tE hb e)))).2.1
   cases b with
   |false =>
    obtain⟨m',hm,w'⟩:=q9;exact again I9 hm w'
   |true=>exact aw (hE _ s9 uR H9 _ _ I9 q9) fun _ RQ ⟨kM,IS,m',hm,w'⟩=>again IS hm w'
 exact Wb F loop (T.self X.A 0 _ _ _ xP loop)
theorem Y9 {wi:TI}{g:TG}{rh:Sem Value}{start:Addr->HO} (F:vN e tg iter ifs emit) (hev:eval e X.env=comprehension e scope X.env pos rh false (eval iter X.env)) (F6:E1 X rh start) (hc:X.calm=true) (S:cK X.N X.env.scope N' b5 scope) (hi:PI X tg iter wi)
  (hb:∀s H fp,PG (cM X N' scope s H fp) tg g/\pM (cM X N' scope s H fp) ifs ti/\Cb (cM X N' scope s H fp) emit tem)
  (hs:∀x,foldedSetIterable iter X.env x=pure x:=by intro _;rfl):PE X e (OJ wi b5 g ti tem start):=by
 intro pins s σ H Q I h;rw[hev];refine Vr (use:=none) F.cl hs (Dx fun n hn=>zB I S hn) S.kind (fun x hx hl=>sZ S.keys (by rw[<-hl];exact hx)) ?_
 refine aw (hi pins s σ H _ I h) fun v s1 h1=>aw h1 fun xD s2 h2=>?_;obtain⟨it,fp,tn,J,H2,e,I2,T,mO,f2,hw⟩:=h2;subst e;refine Xu (RR:=fun acc C=>compPost (model X.prog X.w) X.A X.xe none (EP X pins σ Q) acc C) F hc S I2 T mO f2 F6 hb hw ?_;rintro acc C s' ⟨p,H',rfl,I',fC,⟨m,hm⟩,q⟩;refine⟨m,hm,fun h' kO=>⟨.ref p,H',?_,rfl,q⟩⟩;exact I'.turned (it:=C) (t':=s'.toks) (fun b o hb e=>(kO.2 b hb).trans e) fC.1 fC.2.1 fC.2.2.2.1 fC.2.2.2.2.1 fC.2.2.2.2.2
end
section
variable{k v:Expr}{tk:TE}
def F7 (tk tv:TE) (p:Addr) (σ:St) (H:Hp) (Q:Hp->Prop):Prop:=tk σ H fun y H1=>tv σ H1 fun z H2=>∃kvs ks b,y = .ref b/\H2 b=some (.tup (ks.map kV))/\H2 p=some (.dT kvs)/\kvs.length < sizeLine/\Q (upd H2 p (.dT (putK kvs ks z)))
theorem ab8 (hu:X.A.units+1 < cLine) (hk:PE X k tk) (hv:PE X v tv):Cb X (zL k v) (F7 tk tv):=by
 intro pins s σ H p Q I h;unfold zL;refine aa (aw (hk pins s σ H _ I h) fun u s1 ⟨y,H1,I1,ry,q1⟩=>aa (eI (aw (hv pins s1 σ H1 _ I1 q1) fun r s2 ⟨z,H2,I2,rz,kvs,ks,b,ey,eb,e,l,q⟩=>?_)));subst ey;cases (show u=Value.ref b from ry)
 refine aa (nC (eI ?_));obtain⟨zz,hd,xs,rel,dd⟩:=O2 I2.au e;have hz:xs.length<=sizeLine:=by rw[<-gZ rel];exact zz
 have hl:(putK kvs ks z).length<=sizeLine:=by have:=tD kvs ks z;omega
 refine wpAny_dictSet_heap (hsz:=hz) (knd:=tupleKind (dJ X.prog X.w)) (k:=ks) (show X.A.units < cLine by omega) (t6 I2.au eb) dd fun h' j8 hs=>⟨_,?_,q⟩
 obtain⟨qo,es,ep,hq,h2,h3,h4,_,h5⟩:=j8;refine Ez I2 (by rw[e];exact True.intro) hs ⟨qo,hq⟩ ⟨hl,hd,_,(rel.put ks eb rz).keeps fun c ys ec=>?_,qo,es,ep,hq,h2,h3,h4,h5⟩
 rw[ag (ao ec e (fun z=>nomatch z))];exact ec
theorem abh:E1 X (newDict) (fun _=>.dT []):=⟨fun pins s σ H E Q I h=>by
 refine iP ?_;exact h _ (I.laid (a:=s.heap.objs.size) (o:= .dT []) (t':=s.toks) (fun _ _ q=>a8 _ q) (aP _) (Nd s.heap I.big)) fun b o e=>a8 _ e⟩
variable{wi:TI}{g:TG}
theorem Yd (hc:X.calm=true) (S:cK X.N X.env.scope N' b5 scope) (hi:PI X tg iter wi)
  (hb:∀s H fp,PG (cM X N' scope s H fp) tg g/\pM (cM X N' scope s H fp) ifs ti/\Cb (cM X N' scope s H fp) (zL k v) (F7 tk tv))
  (hs:∀x,foldedSetIterable iter X.env x=pure x:=by intro _;rfl):PE X (.DictComp k v [⟨tg,iter,ifs,0⟩] scope pos) (OJ wi b5 g ti (F7 tk tv) fun _=>.dT []):=
 Y9 Yc rfl abh hc S hi hb hs
end
def Cc (Pv:Nat->St->Hp->Prop) (n i m:Nat) (τ:St) (H:Hp):Prop:=m=n - i/\i<=n/\Pv i τ H
theorem Y' {Pv:Nat->St->Hp->Prop}{τ:St} (h:i < n) (p:Pv (i+1) τ H):∃m',m' < n - i/\Cc Pv n (i+1) m' τ H:=⟨n - (i+1),by omega,rfl,h,p⟩
theorem Ye {g:TG}{tem:Addr->St->Hp->(Hp->Prop)->Prop}{Q:VK} (Pv:Nat->St->Hp->Prop) (h0:Pv 0 iI H1) (hl:∀i τ H,Pv i τ H->aE K H a xs)
  (hs:∀i x τ H,xs[i]? = some x->Pv i τ H->g x τ H fun cz H4=>ti cz H4 fun b H5=>if b=true then tem p cz H5 fun H6=>∃m',m' < xs.length - i/\Cc Pv xs.length (i+1) m' cz H6 else ∃m',m' < xs.length - i/\Cc Pv xs.length (i+1) m' cz H5)
  (hd:∀τ H,Pv xs.length τ H->Q (.ref p) H):EZ (ou K a) g ti tem iI Q p H1:=by
 refine⟨Cc Pv xs.length,⟨xs.length,by simp,bf _,h0⟩,?_⟩
 rintro i m τ H ⟨rfl,hi,pv⟩;have hq:=hl i τ H pv
 by_cases aV:i < xs.length
 ·refine .inr ⟨⟨xs,xs[i],hq,by simp[aV]⟩,fun x H3 y3=>?_⟩
  obtain⟨e3,ex⟩:=y3;subst e3;exact hs i x τ _ (ex xs hq) pv
 ·have e:i=xs.length:=by omega
  subst e;exact .inl ⟨⟨xs,hq,aP _⟩,hd τ H pv⟩
end L2
namespace L2
open PySem PySem.Spec PyProof.Rows
structure w9 (K:PySem.W.Frag) (x qual:Str) (st:Stmt) (dv:Value) (f:Addr) (fd:FuncData):Prop where
 ex:∃ (oc:Value) (od:Option Addr) (kV doc pm:Value) (an:Option Addr) (aH ct:Value) (iZ:Array (Option Value)),
  fd=PySem.W.fnOf x qual (c9 st) (bH st) (aI st) dv kV doc pm an aH ct/\K.lookup f=some ⟨oc,od,.func fd,iZ⟩/\PySem.W.codeIn K aH qual=true
 kp:PySem.W.keepIn K (.ref f)=true
theorem w9.binds {T:Addr}{ds:List Value} (F:w9 K x qual st (.ref T) f fd) (lT:K.lookup T=some ⟨oc,od,.seq items n,iZ⟩)
  (h:∀ (kV doc pm:Value) (an:Option Addr) (aH ct:Value) (us:List Value),(us++ds).length=ps.length -> ∃k:Option (Array Value)->Sem (List (Str×Value)),(bindArgs (PySem.W.fnOf x qual (c9 st) (bH st) (aI st) (.ref T) kV doc pm an aH ct) ⟨us,[]⟩=seqItems? (.ref T) >>= k)/\k (some items)=pure (ps.zip (us++ds))):Binds K fd ps ds:=by
 obtain⟨oc',od',kV,doc,pm,an,aH,ct,aox,rfl,lk,fg⟩:=F.ex;intro s us KX hl;obtain⟨k,h1,h2⟩:=h kV doc pm an aH ct us hl;exact .of_defaults (T:=T) rfl (KX _ _ lT) rfl h1 h2
theorem aad {kV:Value} (l:K.lookup f=some ⟨oc,od,.func (PySem.W.fnOf x qual (c9 st) (bH st) (aI st) dv kV doc pm an aH ct),iZ⟩)
  (c:PySem.W.codeIn K aH qual=true) (k:PySem.W.keepIn K (.ref f)=true):w9 K x qual st dv f (PySem.W.fnOf x qual (c9 st) (bH st) (aI st) dv kV doc pm an aH ct):=⟨⟨oc,od,kV,doc,pm,an,aH,ct,iZ,rfl,l,c⟩,k⟩
end L2
namespace L2
open PySem PySem.Spec PyProof.Rows PySem.W HT
theorem Xv (hc:X.calm=true):eu X (.type "dict") (fun xs H Q=>∃t vs kvs,xs = [.ref t]/\H t=some (.tup vs)/\OG H vs kvs/\(kvs.map (·.1)).Nodup /\ ∀d,H d=none->Q (.ref d) (upd H d (.dK (t7 kvs)))):=by
 intro pins s σ H xs us Q I r h;obtain⟨t,vs,kvs,rfl,ht,pr,nd,q⟩:=h;obtain⟨u,rfl,ru⟩:=vals1 r;cases ru
 obtain⟨hz,its,rv,⟨cl,dd,dt,sl⟩,ho,jz,n,jb,j7⟩:=(show bu X.prog X.w H s.heap t (.tup vs) from I.au t _ ht);obtain rfl:cl = .type "tuple" :=jz;obtain rfl:dd=none:=j7;obtain rfl:dt = .seq its.toArray n:=jb;have mS:vs.length=kvs.length:=gZ pr;have kJ:=rv.length;have pairs:∀ (i:Nat) p,kvs[i]? = some p -> ∃a x y,its.toArray[i]? = some (.ref a)/\IsTup s.heap a #[x,y]/\RelV (.str p.1) x/\RelV p.2 y:=by
  intro i p hp;have hi:i < vs.length:=by rw[mS];exact(cu.mp hp).1
  obtain⟨p',ij,a,ey,ha⟩:=tV pr (show vs[i]? = some vs[i] from b4 hi);rw[hp]at ij;cases ij;obtain⟨u,hu,ru⟩:=rv.get (show vs[i]? = some (V.ref a) by rw[b4 hi,ey])
  cases ru
  obtain⟨i2,r2,t2,_⟩:=I.tuple (aE.of ha);obtain⟨x,y,rfl,rx,ry⟩:=r2.two;exact⟨a,x,y,by simpa using hu,t2,rx,ry⟩
 have ch:∀i:Fin kvs.length,∃y,∃a x,its.toArray[i.1]? = some (.ref a)/\IsTup s.heap a #[x,y]/\RelV (.str kvs[i].1) x/\RelV kvs[i].2 y:=fun i=>by
  obtain⟨a,x,y,h1,h2,h3,h4⟩:=pairs i.1 kvs[i] (b4 i.2);exact⟨y,a,x,h1,h2,h3,h4⟩
 obtain⟨ys,hyl,Sg⟩:∃ys:List Value,ys.length=kvs.length /\ ∀ (i:Nat) (hi:i < kvs.length),∃y,ys[i]? = some y /\ ∃a x,its.toArray[i]? = some (.ref a)/\IsTup s.heap a #[x,y]/\RelV (.str kvs[i].1) x/\RelV kvs[i].2 y:=
  ⟨List.ofFn fun i=>Classical.choose (ch i),List.length_ofFn,fun i hi=>⟨Classical.choose (ch ⟨i,hi⟩),by simp[List.getElem?_ofFn,hi],Classical.choose_spec (ch ⟨i,hi⟩)⟩⟩
 have kps:((kvs.map fun p=>(Sum.inr p.1:Key)).zip ys).map (·.1)=kvs.map fun p=>(Sum.inr p.1:Key):=by
  rw[List.map_fst_zip];rw[aJ];omega
 have Sh:((kvs.map fun p=>(Sum.inr p.1:Key)).zip ys).length=kvs.length:=by rw[List.length_zip,aJ];omega
 have inj:(kvs.map fun p=>(Sum.inr p.1:Key)).Nodup:=by
  have:(kvs.map fun p=>(Sum.inr p.1:Key))=(kvs.map (·.1)).map Sum.inr:=by rw[vw];rfl
  rw[this,an1,List.pairwise_map];exact(an1.mp nd).imp fun h z=>h (nj z)
 refine Wl (I.ok.hd hc) ((kvs.map fun p=>(Sum.inr p.1:Key)).zip ys) (by rw[kps];exact inj) (by rw[Sh];omega) (by rw[b8,Sh];omega) ho (fun i p hp=>?_) fun d h' tk dl dd kp=>?_
 ·obtain⟨h1,h2⟩:=List.getElem?_zip_eq_some.mp hp
  rw[jk]at h1;obtain⟨kv,hk,ek⟩:=kB.mp h1;obtain⟨hi,rfl⟩:=cu.mp hk;obtain⟨y,hy,a,x,g1,g2,g3,g4⟩:=Sg i hi;rw[hy]at h2;cases h2
  exact⟨a,x,g1,g2,by rw[<-ek];exact uj (k:=Sum.inr kvs[i].1) g3⟩
 ·have big:=I.big
  refine⟨.ref d,_,I.laid (a:=d) (o:= .dK (t7 kvs)) (t':=tk) kp dl (OF (by unfold t7;rw[aJ];omega) (ng.mpr (aN (bx (g7 big dl)))) ?_ dd),rfl,q d (I.au.fresh dl)⟩
  exact N6 kvs ys hyl fun i hi=>by
   obtain⟨y,hy,a,x,_,_,_,g4⟩:=Sg i hi;exact⟨y,hy,g4⟩
theorem Xw:eu X (.type "dict") (fun xs H Q=>∃a,xs = [.ref a]/\H a=some (.dT []) /\ ∀d,H d=none->Q (.ref d) (upd H d (.dT []))):=by
 intro pins s σ H xs us Q I r h;obtain⟨a,rfl,e,q⟩:=h;obtain⟨u,rfl,ru⟩:=vals1 r;cases ru
 obtain⟨z,hd,xs',rr,o,es,ep,ho,hx,jb,h4,h5⟩:=(show bu X.prog X.w H s.heap a (.dT []) from I.au a _ e);cases rr
 have e0:es = #[]:=by simpa using h4
 subst e0;have dd:s.heap.DictOf (dJ X.prog X.w) a []:=⟨o,#[],ep,ho,hx,jb,by intro e he;simp at he,by first|exact .nil|trivial|constructor,jl⟩
 have big:=I.big;refine kt_call_dict hd dd (bf _) fun h' j8 sb=>?_;obtain⟨o',gb,uF,eQ,di,adO,pY,ij,_⟩:=j8;have e1:gb.toList = []:=List.length_eq_zero_iff.mp ij.length;refine⟨.ref s.heap.objs.size,_,I.laid (a:=s.heap.objs.size) (o:= .dT []) (t':=s.toks) (fun b o hb=>?_) (aP _) ⟨bf _,ng.mpr (aN (bx big)),[],.nil,o',gb,uF,eQ,di,adO,e1,jl⟩,rfl,q _ (I.au.fresh (aP _))⟩;have nb:b≠s.heap.objs.size:=bx (a9 hb);rw[sb.2 b nb];exact a8 _ hb
end L2
namespace L2
open PySem PySem.Spec PyProof.Rows PySem.W
theorem Xx (l:Addr) (items:Array Value) (n:Nat) (b:Addr) (we:Array Value) (n2:Nat) (dd:Option Addr) (sl:Array (Option Value)) (Si : ¬(!items.isEmpty && Builtin.List.listTooLong (items.size+we.size))=true) (hs1:items.size<=sizeLine) (xE:items.size+we.size<=sizeLine+1) :
  Meets (Builtin.«list.extend» ⟨[.ref l,.ref b],[]⟩) (fun _ R s=>s.heap.get? l=some { cls:= .type "list",dict:=none,data:= .seq items n,slots:= #[] }/\s.heap.get? b=some { cls:= .type "tuple",dict:=dd,data:= .seq we n2,slots:=sl }/\R (.ok (.ret Value.none)) { s with heap:=s.heap.update l (Obj.mapSeq fun x=>x++we),toks:=s.toks }):=
 .of_wp fun prog w A R s h=>by
  obtain⟨hp,g,d,tk,os⟩:=s;obtain⟨hl,hb,h⟩:=h;have f1:=AutoSeq1.idx_int;have f2:=AutoSeq1.sub_tuple_tuple;have f3:=AutoSeq1.sub_list_list;have f4:=AutoSeq1.sub_tuple_list;have f5:=AutoSeq1.sub_list_tuple;have uV:(items++we).size<=sizeLine+1:=by rw[Dg];exact xE
  wp_walk using (VN hl rfl (hz:=hs1) (_hz':=uV)),VS hl,VS hb
  exact⟨_,rfl,h⟩
def Za:V->List V->Hp->VK->Prop:=fun x vs H Q=>∃l b xs zs,x = .ref l/\vs = [.ref b]/\H l=some (.lst xs)/\H b=some (.tup zs)/\xs.length+zs.length<=sizeLine/\Q .aF (upd H l (.lst (xs++zs)))
theorem Xy:uO X "list.extend" Za:=by
 intro pins s σ H x vs v us Q I rx rv h;obtain⟨l,b,xs,zs,rfl,rfl,hH,hB,hz,q⟩:=h;cases rx
 obtain⟨u,rfl,ru⟩:=rv.one;cases ru
 obtain⟨z,its,n,r,hl,e⟩:=I.rG hH;obtain⟨z2,nY,r2,⟨cls,dd,data,sl⟩,e2,hc,n2,hd,lP⟩:=(show bu X.prog X.w H s.heap b (.tup zs) from I.au b _ hB);simp only at hc hd lP;subst hc hd lP;have kJ:=r2.length;have hsz:its.toArray.size+nY.toArray.size<=sizeLine:=by rw[b8,b8];omega
 have ab9 : ¬ (!its.toArray.isEmpty && Builtin.List.listTooLong (its.toArray.size+nY.toArray.size))=true:=by
  rw[YK hsz,Bool.and_false];exact cw
 refine sQ F.slot_list_extend ⟨_,e,rfl⟩ F.entry_list_extend (F.args_list_extend_2 _ _)
  (Xx l its.toArray n b nY.toArray n2 none sl ab9 (by rw[b8];omega) (by omega)) ⟨e,e2,?_⟩
 refine⟨.aF,_,I.AO (its':=its++nY) hH e (by simp) (r.append r2) ?_,rfl,q⟩
 rw[dz];omega
def wD (o:Obj):Option Value:=match o.data with|.fields vs=>vs[2]? | _=>none
def Kp (o o':Obj):Prop:=o'.dict=o.dict/\wD o'=wD o
def KD {α:Type}:Sem α->Prop
 |.pure _=>True
 |.raise _=>True
 |.unsupported _=>True
 |.finish _=>True
 |.rule _ k=>KD (k ())
 |.at _ k=>KD (k ())
 |.load _ _ k=>∀o,KD (k o)
 |.update _ _ f k=>(∀o,Kp o (f o))/\KD (k ())
 |.alloc _ k=>∀a,KD (k a)
 |.loadIfAlive _ k=>∀o,KD (k o)
 |.point _ k=>KD (k ())
 |.register _ _=>False
 |.fresh k=>∀t,KD (k t)
 |.ask k=>∀x,KD (k x)
 |.choose _ _ k=>∀n,KD (k n)
 |.os _ _ k=>∀r,KD (k r)
 |.call _ _ _ _ _=>False
 |.handled _ k=>∀v,KD (k v)
 |.newGen _ k=>∀n,KD (k n)
 |.genState _ k=>∀x,KD (k x)
 |.resume _ _ _ _=>False
 |.yield _ _ _ _=>False
 |.stack k=>∀l,KD (k l)
 |.fork _ _=>False
 |.thread k=>∀n,KD (k n)
 |.await _ _ _ _ _=>False
def RD (h h':Heap):Prop:= ∀ (a:Addr) (o:Obj),h.objs[a]? = some o -> ∃o',h'.objs[a]? = some o'/\Kp o o'
theorem RD.refl (h:Heap):RD h h:=fun a o e=>⟨o,e,rfl,rfl⟩
theorem RD.trans {h1 h2 h3:Heap} (a:RD h1 h2) (b:RD h2 h3):RD h1 h3:=fun x o e=>by
 obtain⟨o1,e1,d1⟩:=a x o e;obtain⟨o2,e2,d2⟩:=b x o1 e1;exact⟨o2,e2,d2.1.trans d1.1,d2.2.trans d1.2⟩
theorem RD.push (r:RD h0 h) (o:Obj):RD h0 (h.push o):=r.trans fun x u e=>⟨u,by
 obtain⟨objs,l⟩:=h;show(objs.push o)[x]? = some u;have hx:x < objs.size:=(K'.mp e).1;rw[Array.getElem?_push,aj (bx hx)];exact e,rfl,rfl⟩
theorem RD.update (r:RD h0 h) {f:Obj->Obj} (hf:∀o,Kp o (f o)):RD h0 (h.update a f):=r.trans fun x u e=>by
 obtain⟨objs,l⟩:=h;show ∃o',(objs.modify a f)[x]? = some o'/\_;rw[Array.getElem?_modify];have e':objs[x]? = some u:=e
 by_cases c:a=x
 ·rw[ax c,e'];exact⟨f u,rfl,hf u⟩
 ·rw[aj c];exact⟨u,e',rfl,rfl⟩
theorem RD.dict (r:RD h h') {o':Obj} (e:h.get? a=some o) (e':h'.get? a=some o'):Kp o o':=by
 have raw:∀ {g:Heap}{u:Obj},g.get? a=some u->g.objs[a]? = some u:=fun {g u} q=>by
  unfold Heap.get? at q;split at q
  ·cases q
  ·exact q
 obtain⟨o2,e2,d⟩:=r a o (raw e);rw[raw e']at e2;cases e2
 exact d
theorem aca {α:Type}{M:Model}{Γ:PySem.Ctx}:∀ {t:Sem α}{Q:α->Pos->Shared->Prop}{E:Value->Pos->Shared->Prop}{p:Pos}{s:Shared},KD t->RD h0 s.heap->Sem.wp M Γ t Q E p s ->
  Sem.wp M Γ t (fun v p s'=>Q v p s'/\RD h0 s'.heap) (fun v p s'=>E v p s'/\RD h0 s'.heap) p s:=by
 intro t
 induction t with
 |pure a=>intro Q E p s _ r h;exact⟨h,r⟩
 |raise e=>intro Q E p s _ r h;exact⟨h,r⟩
 |unsupported w=>intro Q E p s _ r h;exact h
 |finish e=>intro Q E p s _ r h;exact h
 |rule t k ih=>intro Q E p s kd r h;exact ih () kd r h
 |«at» q k ih=>intro Q E p s kd r h;exact ih () kd r h
 |load a q k ih=>intro Q E p s kd r h;obtain⟨o,e,h⟩:=h;exact⟨o,e,ih o (kd o) r h⟩
 |update a q f k ih=>intro Q E p s kd r h;exact⟨h.1,ih () kd.2 (r.update kd.1) h.2⟩
 |alloc o k ih=>intro Q E p s kd r h;exact ih _ (kd _) (r.push o) h
 |loadIfAlive a k ih=>intro Q E p s kd r h;exact ih _ (kd _) r h
 |point l k ih=>intro Q E p s kd r h;exact ih () kd r h
 |register a k ih=>intro Q E p s kd r h;exact h
 |fresh k ih=>intro Q E p s kd r h;exact ih _ (kd _) r h
 |ask k ih=>intro Q E p s kd r h;exact ih _ (kd _) r h
 |choose src n k ih=>intro Q E p s kd r h;exact⟨h.1,ih _ (kd _) r h.2⟩
 |os q l k ih=>intro Q E p s kd r h;exact ih _ (kd _) r h
 |call c hd g l k ih=>intro Q E p s kd r h;exact False.elim kd
 |handled own k ih=>intro Q E p s kd r h;exact ih _ (kd _) r h
 |newGen c k ih=>intro Q E p s kd r h;exact ih _ (kd _) r h
 |genState g k ih=>intro Q E p s kd r h;obtain⟨st,e,h⟩:=h;exact⟨st,e,ih _ (kd _) r h⟩
 |resume g rs l k ih=>intro Q E p s kd r h;exact False.elim kd
 |yield v g l k ih=>intro Q E p s kd r h;exact False.elim kd
 |stack k ih=>intro Q E p s kd r h;exact ih _ (kd _) r h
 |fork c k ih=>intro Q E p s kd r h;exact False.elim kd
 |thread k ih=>intro Q E p s kd r h;exact ih _ (kd _) r h
 |await a t b l k ih=>intro Q E p s kd r h;exact False.elim kd
theorem abi {α:Type}{M:Model}{t:Sem α}{Q:α->Shared->Prop} (k:KD t) (h:wpAny M A t Q E s) :
  wpAny M A t (fun v s'=>Q v s'/\RD s.heap s'.heap) (fun v s'=>E v s'/\RD s.heap s'.heap) s:=fun Γ p hi=>aca k (RD.refl _) (h Γ p hi)
theorem KD.bind {α β:Type}{f:α->Sem β} (hf:∀x,KD (f x)):∀ {t:Sem α},KD t->KD (t.bind f):=by
 intro t
 induction t with
 |pure a=>intro _;exact hf a
 |raise e=>intro _;trivial
 |unsupported w=>intro _;trivial
 |finish e=>intro _;trivial
 |rule t k ih=>intro kd;exact ih () kd
 |«at» q k ih=>intro kd;exact ih () kd
 |load a q k ih=>intro kd o;exact ih o (kd o)
 |update a q g k ih=>intro kd;exact⟨kd.1,ih () kd.2⟩
 |alloc o k ih=>intro kd a;exact ih a (kd a)
 |loadIfAlive a k ih=>intro kd o;exact ih o (kd o)
 |point l k ih=>intro kd;exact ih () kd
 |register a k ih=>intro kd;exact False.elim kd
 |fresh k ih=>intro kd o;exact ih o (kd o)
 |ask k ih=>intro kd o;exact ih o (kd o)
 |choose src n k ih=>intro kd o;exact ih o (kd o)
 |os q l k ih=>intro kd o;exact ih o (kd o)
 |call c hd g l k ih=>intro kd;exact False.elim kd
 |handled own k ih=>intro kd o;exact ih o (kd o)
 |newGen c k ih=>intro kd o;exact ih o (kd o)
 |genState g k ih=>intro kd o;exact ih o (kd o)
 |resume g rs l k ih=>intro kd;exact False.elim kd
 |yield v g l k ih=>intro kd;exact False.elim kd
 |stack k ih=>intro kd o;exact ih o (kd o)
 |fork c k ih=>intro kd;exact False.elim kd
 |thread k ih=>intro kd o;exact ih o (kd o)
 |await a t b l k ih=>intro kd;exact False.elim kd
theorem KD.cW {α β:Type}{t:Sem α}{f:α->Sem β} (h:KD t) (hf:∀x,KD (f x)):KD (t >>= f):=KD.bind hf h
theorem KD.pure {α:Type}{x:α}:KD (Pure.pure x:Sem α):=True.intro
theorem KD.mT {α:Type}{w:String}:KD (PySem.unsupported w:Sem α):=True.intro
theorem D':KD PySem.stack:=fun _=>True.intro
theorem EB:KD (PySem.load a):=fun _=>True.intro
theorem MM {f:Obj->Obj} (h:∀o,Kp o (f o)):KD (PySem.update a f):=⟨h,True.intro⟩
theorem WS {v:Value}:KD (fieldsOf v):=by
 unfold fieldsOf;split
 ·refine KD.cW EB fun o=>?_
  split
  ·exact KD.pure
  ·exact KD.mT
 ·exact KD.mT
theorem zM {v:Value}:KD (field v i):=by
 unfold field;refine KD.cW WS fun o=>?_;split
 ·exact KD.pure
 ·exact KD.mT
theorem Wi {x:Value} (hi:i≠2):∀o:Obj,Kp o (Obj.mapFields (·.setIfInBounds i x) o):=fun⟨c,d,dt,s⟩=>by
 cases dt <;> first|exact⟨rfl,rfl⟩|exact⟨rfl,Array.getElem?_setIfInBounds_ne hi⟩
theorem vB {v x:Value} (hi:i≠2:=by decide):KD (setField v i x):=by
 unfold setField;split
 ·unfold updateField
  refine KD.cW EB fun o=>?_;split
  ·split
   ·exact MM (Wi hi)
   ·exact KD.mT
  ·exact KD.mT
 ·exact KD.mT
theorem Dz {ty:String}{vs:List Value}:KD (newFields ty vs):=by
 unfold newFields newObj
 dsimp only
 split
 ·exact KD.mT
 ·show KD (newObjAsIs _ _ _)
  unfold newObjAsIs;exact KD.cW (fun _=>True.intro) fun _=>KD.pure
theorem WT {b:Bool}{l:List Env}:KD (keptBack env b l):=by
 unfold keptBack;split
 ·split
  ·exact KD.pure
  ·unfold underTheClaimsCaller
   exact KD.cW (KD.cW D' fun _=>KD.pure) fun _=>by split <;> exact KD.pure
 ·exact KD.pure
theorem Yf {l:List Env}:KD (behindIsImport env l):=by
 unfold behindIsImport;split
 ·exact KD.pure
 ·split
  ·exact KD.pure
  ·exact KD.cW zM fun _=>KD.pure
theorem Nu:∀l:List Env,KD (readyFrames l)
 |[]=>by unfold readyFrames;exact KD.pure
 |env::outer=>by
  unfold readyFrames;split
  ·refine KD.cW EB fun o=>?_
   split
   ·exact KD.pure
   ·exact KD.cW Yf fun _=>KD.cW WT fun _=>KD.cW (MM fun _=>⟨rfl,rfl⟩) fun _=>Nu outer
  ·exact KD.mT
theorem DH:KD (PySem.frameOf env):=by
 unfold PySem.frameOf;refine KD.cW ?_ fun l=>KD.cW ?_ fun r=>?_
 ·unfold frameEnvs
  exact KD.cW D' fun _=>KD.pure
 ·unfold frameObject
  split
  ·exact KD.pure
  ·exact KD.cW (Nu _) fun _=>KD.pure
 ·split
  ·exact KD.pure
  ·exact KD.mT
theorem Ea {b:Bool}:KD (entryPlaceOf f b):=by
 unfold entryPlaceOf;refine KD.cW D' fun l=>?_;split
 ·exact KD.pure
 ·exact KD.pure
theorem Oa {e:Value}:KD (noteFrame e env):=by
 unfold noteFrame;split
 ·refine KD.cW zM fun hd=>?_
  have last:∀f b,KD (setField e 1 =<< (do EntryCells.newEntry hd (<- PySem.frameOf env) .none (rawInt f) .none (<- entryPlaceOf f b))):=fun f b=>KD.cW (KD.cW DH fun _=>KD.cW Ea fun _=>Dz) fun _=>vB;split
  ·refine KD.cW zM fun x=>?_
   split
   ·exact KD.pure
   ·exact KD.cW vB fun _=>KD.cW DH fun _=>KD.cW Ea fun _=>KD.cW Dz fun _=>vB
  ·exact KD.cW DH fun _=>KD.cW Ea fun _=>KD.cW Dz fun _=>vB
 ·exact KD.mT
theorem DA {e:Value}{f:Option Addr}:KD (setFlight e f):=by
 unfold setFlight;refine KD.cW zM fun tb=>?_;split
 ·exact vB
 ·exact KD.pure
theorem L3 {e:Value}:KD (leaving env e):=by
 unfold leaving;exact KD.cW Oa fun _=>DA
def n8 (n:Option Value) (C:Addr) (dx:Option Addr) (a:Addr):HO:= .ext fun h=>∃ox vs,h.get? a=some ox/\ox.cls = .ref C/\ox.dict=dx/\ox.data = .fields vs/\(∀y,n=some y->vs[2]? = some y)
section
variable{n:Option Value}
theorem aae {vs:Array Value} (e:h.get? a=some ox) (c:ox.cls = .ref C) (d:ox.dict=dx) (f:ox.data = .fields vs) (z:∀y,n=some y->vs[2]? = some y):bu P w H h a (n8 n C dx a):=
 ⟨⟨ox,vs,e,c,d,f,z⟩,⟨_,e⟩,fun _ _ ⟨ox,vs,q,r⟩ k=>⟨ox,vs,k _ q,r⟩⟩
theorem aaf {B:Heap}{l:List Env}{a0:Value} (f:Heap.FlyingW B l a (.ref C) a0 h) (r:∃ox,h.get? a=some ox/\ox.dict=dx/\(∀y,n=some y->wD ox=some y)):bu P w H h a (n8 n C dx a):=by
 obtain⟨_,_,_,oe,vs,_,_,_,he,hc,hd,_⟩:=f;obtain⟨ox,e,d,z⟩:=r;rw[he]at e;cases e;exact aae he hc.1 d hd fun y=>by have:=z y;unfold wD at this;rw[hd]at this;exact this
theorem aag (ok:cR P w H h) (n:H a=none) (o:bu P w (upd H a O) h a O):cR P w (upd H a O) h:=fun b u e=>by
 by_cases c:b=a
 ·subst c
  rw[af]at e;cases e;exact o
 ·rw[ag c]at e
  exact(ok b u e).hW (fun _ _ _ q=>q) (fun x q=>by rw[ag (aq q n)];exact q) fun x xs q=>by rw[ag (aq q n)];exact q
theorem Un.add {fs ex:List Addr} (u:Un fs ex H H' h h') (n':H' a=none) (n:h.get? a=none):Un fs ex H (upd H' a O) h h':=
 ⟨u.keep,u.slot,fun b o e q x=>by
  have:b≠a:=by rintro rfl;rw[n]at e;cases e
  rw[ag this];exact u.free b o e q x,u.there,fun b xs e=>by
  have q:=u.jt b xs e;rw[ag (aq q n')];exact q,fun b o v e=>by
  have q:=u.ju b o v e;rw[ag (aq q n')];exact q,fun b ps e=>by
  obtain⟨m,q⟩:=u.jU b ps e;exact⟨m,by rw[ag (aq q n')];exact q⟩⟩
theorem Zb:upd (lz H a) a O=upd H a O:=by
 funext b;unfold upd
 by_cases c:b=a
 ·rw[ax c,ax c]
 ·rw[aj c,aj c,tO c]
end
section
variable{fs:List (Str×V)}{f:Str}{n:Option Value}
theorem Yg {b:Bool} (I:Inv X pins σ H s) (e:H a=some (n8 n C (some d) a)) (ed:H d=some (iD d fs)) (c:gP X.K C) (no:findIn X.K (.ref C) f=some none) (l:fs.lookup f=some v)
  (h:∀u s',Inv X pins σ H s'->RelV v u->Q u s'):wpAny (model X.prog X.w) A (getAttr (.ref a) f b) Q E s:=by
 obtain⟨ox,vs,at_,hc,hd,hf,_⟩:=(I.au a _ e).1;obtain⟨_,mA,n',r,_⟩:=I.Ey ed;obtain⟨od,j7,look⟩:=zy n';have rf:=r f;rw[l]at rf;obtain⟨u,hu,ru⟩:=gj.some_of rf;have J:InstAt s.heap a ox C (some od):=⟨at_,hc,by unfold notCls;rw[hf],by rw[hd];exact j7⟩
 exact ZQ I.bX J c (findObj_own c.hd no rfl (by rw[look,hu])) (Mg ru) (h u _ (I.tok _) ru)
end
section
variable{f:Str}
def acb (X:Cx) (ta:TE) (f:Str):TE:=fun σ H Q=>ta σ H fun x H1=>∃a n C d fs v,x = .ref a/\H1 a=some (n8 n C (some d) a)/\H1 d=some (iD d fs)/\gP X.K C/\findIn X.K (.ref C) f=some none/\fs.lookup f=some v/\Q v H1
theorem aah (he:PE X e ta) (hb:attributeBase e f X.env (eval e X.env)=eval e X.env:=by rfl):PE X (.Attribute e f pos) (acb X ta f):=by
 intro pins s σ H Q I h;refine NY hb (aw (he pins s σ H _ I h) fun u s1 ⟨x,H1,I1,rx,a,_,C,d,fs,v,ex,ea,ed,c,n,l,q⟩=>?_);subst ex;obtain rfl:u=Value.ref a:=rx;exact Yg I1 ea ed c n l fun u' s2 I2 ru=>⟨v,H1,I2,ru,q⟩
end
theorem WU {D:Ends}{R:Addr->Addr->Option Addr->Hp->Prop} (I:Inv X pins σ H s) (hc:X.calm=true) (he:PE X e te)
  (h:te σ H fun v H1=>∃a C dx i,v = .ref a/\H1 a=some (cY C dx a)/\(∀d,dx=some d -> ∃fs,H1 d=some (iD d fs))/\gP X.K C/\jS X.K C i=true/\R a C dx H1)
  (fin:∀a C dx H1 s1,Inv X pins σ H1 s1->H1 a=some (cY C dx a)->R a C dx H1->X.xe (.ref a) s1) :
  wpAny (model X.prog X.w) X.A (exec (.Raise (some e) none pos) X.env) (SP X pins D) X.xe s:=by
 rw[arm_exec_Raise];refine aa (nC (show wpAny _ _ (raiseStmt X.env (some (do let v <- eval e X.env;standAt pos;pure v)) none) _ _ _ from ?_));unfold raiseStmt;refine aa (aa (aw (he pins s σ H _ I h) fun u s1 ⟨v,H1,J,r,a,C,dx,i,ev,ea,hd,c,q,hR⟩=>aa (nC (ai ?_))));subst ev;obtain rfl:u = .ref a:=r;obtain⟨ox,od,t,inst,rfl⟩:=J.ZZ ea hd;have O5:Looks (model X.prog X.w) s1.heap (isType (.ref a)) false:=fun A' Q' E' s' k z=>by
  simp only[isType,loadHead];exact aa (KU (k _ _ inst.at_) (ai z))
 have isB:Looks (model X.prog X.w) s1.heap (isInstance (.ref a) (.type "BaseException")) true:=inst.type.andThen (K4 J.bX c.be);obtain⟨bm,N,nm,qn,bs,FY,sn,sub,ab,col,dd,k0,k1,k2,k3,k5,mN,hC,_⟩:=(zC J.bX q).ex;have tyC:s1.TypeIs (.ref C) "type" :=⟨_,hC,rfl⟩;refine aa (ai (aa (eI ?_)));unfold excFromValue isExcClass;refine aa (aa (O5.here (ai ?_)));refine aa (isB.here (ai ?_));refine aa (O5.here ?_);unfold raisedInstance;refine aa (aa (inst.type.here (aa (oY tyC ?_))));rw[ax (show(Value.type "type" == Value.type "type")=true from by decide)]
 refine ai ?_;unfold setFlight raiseNew;refine aa (aa (sO inst.at_ rfl (x:= .none) rfl ?_));rw[aj (show ¬ ((Value.none != Value.none)=true) from by decide)]
 refine ai (aa (wpAny_handled_none (J.ok.hd hc) ?_))
 first
  |exact Li (fin a C dx H1 s1 J ea hR)
  |exact aa (ai (Li (fin a C dx H1 s1 J ea hR)))
def d9 (P:Program) (w:World):j6:=fun outer H s E e s'=>∃ (a:Addr) (n:Option Value) (C:Addr) (a0:Value) (dx:Option Addr) (H':Hp) (B:Heap),e = .ref a/\s'.os=s.os/\AllBare s'.gens/\Heap.FlyingW B outer a (.ref C) a0 s'.heap /\
 (∃ox,s'.heap.get? a=some ox/\ox.dict=dx/\(∀y,n=some y->wD ox=some y))/\(∀h',B.StaysIn h'->s'.heap.UpToSlots h'->Un (f9 outer) [] H H' s.heap h'/\cR P w H' h')/\H' a=none/\s.heap.get? a=none/\E (.ref C) (some a) (upd H' a (n8 n C dx a))
theorem vU {α:Type}{M:Model}{t:Sem α}{Q Q':α->Shared->Prop} (k:KD t) (h:wpAny M A t Q E s) (q:∀v s',Q v s'->RD s.heap s'.heap->Q' v s'):wpAny M A t Q' E s:=
 lZ (abi k h) (fun v s' z=>q v s' z.1 z.2) fun _ _ z=>z.1
section
variable{E:XK}
def aai (K:Frag) (H0:Hp) (E:XK) (te:TE):TS:=fun _ σ H=>te σ H fun v H1=>∃a C dx i,v = .ref a/\H1 a=some (cY C dx a)/\(∀d,dx=some d -> ∃fs,H1 d=some (iD d fs))/\gP K C/\jS K C i=true/\H0 a=none/\E (.ref C) (some a) (upd H1 a (n8 (some .none) C dx a))
theorem Yh (he:PE (gm (d9 P w) P w K mg base N qual scope f cd A outer s H E) e te) :
  PS (gm (d9 P w) P w K mg base N qual scope f cd A outer s H E) (.Raise (some e) none pos) (aai K H E te):=by
 intro pins s1 σ H1 D I h;refine WU (R:=fun a C dx H2=>H a=none/\E (.ref C) (some a) (upd H2 a (n8 (some .none) C dx a))) I rfl he h fun a C dx H2 s2 J ea ⟨h0,hE⟩=>?_;have fr:s2.heap.FunFrames base (envOfC qual scope s.heap.objs.size f cd::outer):=J.stack;have all:∀env∈(envOfC qual scope s.heap.objs.size f cd::outer),∀b,env.frame=some b->b∈a::f9 (envOfC qual scope s.heap.objs.size f cd::outer):=fun env m b hb=>bq _ (y9.mpr ⟨env,m,hb⟩);obtain⟨t,at_⟩:=J.excAt ea;have new:s.heap.get? a=none:=by
  have ub:Un (f9 outer) [] H H2 s.heap s2.heap:=J.base;cases q:s.heap.get? a with
  |none=>rfl
  |some o =>
   have:=ub.free a o q h0 (by simp)
   rw[ea]at this;cases this
 show wpAny (model P w) _ (leaving _ (.ref a)) _ _ _;refine vU L3 (wpAny_leaving_firstW (Q:=fun _ s'=>∃h',s'={ s2 with heap:=h' }/\Heap.LeftW (hideAll s2.heap (a::f9 (envOfC qual scope s.heap.objs.size f cd::outer))) (envOfC qual scope s.heap.objs.size f cd::outer) a (.ref C) (.ref t) s2.heap h') (base:=hideAll s2.heap (a::f9 (envOfC qual scope s.heap.objs.size f cd::outer))) (L:=s.heap.objs.size) (a0:= .ref t) J.ok.frames (funFrames_hide fr all) rfl at_ (fun b o q=>of_hideAll _ q) (hideAll_none _ aW) rfl rfl rfl fun h' hL=>⟨h',rfl,hL⟩) fun _ s' ⟨h',es,hL⟩ rd=>?_;subst es;obtain⟨k1,⟨_,_,k2⟩,k3,k4⟩:=hL;have fl:Heap.FlyingW (hideAll s2.heap (a::f9 (envOfC qual scope s.heap.objs.size f cd::outer))) outer a (.ref C) (.ref t) h':=⟨k1,hideAll_none _ aW,k2,k3⟩;obtain⟨ox,oJ,_⟩:=fl.there;refine⟨a,some .none,C,.ref t,dx,lz H2 a,hideAll s2.heap (a::f9 (envOfC qual scope s.heap.objs.size f cd::outer)),rfl,J.os,J.bare,fl,⟨ox,oJ,(rd.dict at_ oJ).1,fun y ey=>by cases ey;exact(rd.dict at_ oJ).2⟩,fun iL kb up=>?_,by unfold lz;rw[ax rfl],new,by rw[Zb];exact hE⟩
 exact J.hidden rfl rfl rfl ea h0 kb (Lo k4 up)
end
theorem aY.Jn {k:Nat} (F:aY K x qual st f fd) (S:bF N ps (aI st)) (len:∀vs H Q E,sp vs H Q E->vs.length=ps.length)
  (rA:∀ (aH:Value) (A:Around) (outer:List Env) (s:Shared) (H:Hp) (vs:List V) (Q:VK) (E:XK),bb k (A.deeper (envOfC qual (aI st) s.heap.objs.size f aH))->sp vs H Q E ->
   ∃t,ff (gm (d9 P w) P w K mg base N qual (aI st) f aH A outer s H E) (bH st) t/\t { nx:=fun _ H'=>Q .aF H',rt:=Q } (start N vs) H):aS P w K mg base (d9 P w) (k+1) f fd ps sp:=by
 obtain⟨oc,od,kV,doc,pm,an,aH,ct,iZ,rfl,lk,fg⟩:=F.ex;exact Ff lk fg S len fun A outer s H vs Q E hr gR=>rA aH A outer s H vs Q E hr gR
theorem WA {Q:Bool->Shared->Prop}{i:Option Value}{r:Bool} (X:K.In s.heap) (q:jS K B i=true) (me:mroIn K C (.ref B)=some r) (at_:s.heap.get? a=some ox) (cl:ox.cls = .ref C) (h:Q r s) :
  wpAny (model P w) A (excMatches (.ref a) (.ref B)) Q E s:=by
 obtain⟨bm,N,nm,qn,bs,FY,sn,sub,ab,col,dd,k0,k1,k2,k3,k5,mN,hC,_,_,T⟩:=(zC X q).ex;have L:Looks (model P w) s.heap (isSubtype (.ref C) (.ref B)) r:=K4 X me;obtain⟨hh,g,d,tk,os⟩:=s;have hT:bm.contains (.type "BaseException")=true:=T.hasType (by decide)
 have hcB:(Value.ref B::bm).contains (.type "BaseException")=true:=by rw[List.contains_cons,hT,Bool.or_true]
 have f:=tc_notTuple;unfold excMatches
 repeat (first|(with_reducible refine Dc at_ ?_;rw[cl])|with_reducible refine Dc hC ?_|(with_reducible refine wpAny_isSubtype_exc hC ?_;rw[hcB])|(with_reducible refine L.here ?_)|wp_step)
 cases r <;> (wp_walk;exact h)
def Cx.lx (X:Cx) (pins:List (Addr×Obj)) (E:St->XK):Cx:={ X with pn:=X.pn++pins,xe:=fun e s'=>∃aK H s1,Inv X pins aK H s1/\d9 X.prog X.w X.stack H s1 (E aK) e s' }
section
variable{wu:List (Addr×Obj)}{E:St->XK}{D:Ends}
theorem Inv.lx (I:Inv X pins σ H s):Inv (X.lx pins E) [] σ H s:=
 ⟨⟨I.ok.mod,I.ok.kind,I.ok.glob,I.ok.blt,I.ok.above,I.ok.inj,I.ok.has,I.ok.pU,I.ok.hd,I.ok.frames,I.ok.rV,I.ok.om,I.ok.bs,I.ok.lH,I.ok.pK,I.ok.nX,I.ok.iB,I.ok.mI⟩,I.os,I.bare,I.base,I.loc,I.cell,I.free,I.gN,(fun p hp=>I.pin p (by rw[jM]at hp;exact hp)),I.au,I.len⟩
theorem Inv.rB (ok:X.Ok) (I:Inv (X.lx pins E) wu σ H s):Inv X pins σ H s:=
 ⟨ok,I.os,I.bare,I.base,I.loc,I.cell,I.free,I.gN,(fun p hp=>I.pin p (nu _ hp)),I.au,I.len⟩
theorem Cx.Ok.acd (ok:(X.lx pins E).Ok):X.Ok:=⟨ok.mod,ok.kind,ok.glob,ok.blt,ok.above,ok.inj,ok.has,ok.pU,ok.hd,ok.frames,ok.rV,ok.om,ok.bs,ok.lH,ok.pK,ok.nX,ok.iB,ok.mI⟩
theorem SP.rB {f:Flow} (ok:X.Ok) (h:SP (X.lx pins E) wu D f s):SP X pins D f s:=by
 cases f with
 |next=>obtain⟨aK,H',I,q⟩:=h;exact⟨aK,H',I.rB ok,q⟩
 |brk=>obtain⟨aK,H',I,q⟩:=h;exact⟨aK,H',I.rB ok,q⟩
 |cont=>obtain⟨aK,H',I,q⟩:=h;exact⟨aK,H',I.rB ok,q⟩
 |ret u=>obtain⟨v,aK,H',I,r,q⟩:=h;exact⟨v,aK,H',I.rB ok,r,q⟩
end
section
variable{wF:List (Addr×Obj)}{EE:St->XK}{k:Nat}{p:Pos}{t:TA}
def OK (sp:Sp) (EE:St->XK) (t:TA):TE:=fun σ H Q=>t σ H fun vs H1=>sp vs H1 Q (EE σ)
theorem Zc (F:aS X.prog X.w X.K X.mg X.base (d9 X.prog X.w) k f fd ps sp) (hr:bb k X.A) (hg:Gl X x) (hm:X.mg x=some (.ref f)) (hk:keepIn X.K (.ref f)=true) (hb:Binds X.K fd ps [])
  (ha:PA (X.lx wF EE) (e::es) t) (cN:(x==("__debug__" : Str))=false:=by decide) (he:starEach (e::es) X.env=(false,eval e X.env)::starEach es X.env:=by rfl) (cS:(backTo pos (starEach es X.env)).any (·.1)=false:=by rfl) :
  PE (X.lx wF EE) (.Call (.Name x p) (e::es) [] pos) (OK sp EE t):=by
 intro pins s σ H Q I h;refine ze (tR I hg hm ?_ cN);refine callWith_K (h₀:=X.base) I.ok.mod.rT hk (aw (ha pos pins s σ H _ I h) fun us s1 ⟨vs,H1,I1,r,q⟩=>⟨I1.bX,?_⟩) he cS;have hl:us.length=ps.length:=by rw[<-r.length];exact F.len _ _ _ _ q
 have jB:=hb s1 us I1.bX (by rw[jM];exact hl)
 rw[jM]at jB;refine qH (sN (F.run X.A X.stack s1 H1 ⟨us,[]⟩ us vs _ _ hr I1.AM jB r q) fun res s2 hq=>?_);cases res with
 |ok fl =>
  cases fl with
  |ret u=>exact I1.after hq
  |next=>exact False.elim hq
  |brk=>exact False.elim hq
  |cont=>exact False.elim hq
 |error ev=>exact⟨σ,H1,s1,I1.rB I1.ok.acd,hq⟩
end
theorem zV {M:Model}{Q:Unit->Shared->Prop} (I:Inv X pins σ H s) (hN:X.N.Nodup) (hi:X.N[i]? = some x) (hk:X.env.scope.names.lookup x=some .local)
  (h:∀s',Inv X pins (σ.set i none) H s'->Q () s'):wpAny M A (do bindName X.env x .none;unbindBehindTheSuite X.env x pos) Q E s:=by
 obtain⟨m,hn,hl⟩:=id I.loc;have FH:(X.env.scope.kind == .class || (X.env.scope.kind == .module && X.env.locals != X.env.globals))=false:=by rw[I.ok.kind];rfl
 have lI:=I.lI;refine wpAny_nameGoes_keeps hk hn FH fun h' v pV hs=>?_;obtain⟨oL,_,_,RG,_⟩:=id hn;have tracked:cR X.prog X.w H h':=fun b ob e=>by
  refine(I.au b ob e).hW (fun c w' hc q=>(hs.2 c ?_).trans q) (fun _ q=>q) fun _ _ q=>q;rintro rfl;rcases hc with rfl|hc
  ·rw[I.free]at e;cases e
  ·rw[I.free]at hc;cases hc
 refine h _ ⟨I.ok,I.os,I.bare,⟨fun b o e n hb hx=>?_,fun b o e n hb hx=>?_,I.base.free,fun b o e hx=>?_,I.base.jt,I.base.ju,I.base.jU⟩,⟨_,pV,fun j y v' e1 e2 e3=>?_⟩,fun y c e=>?_,I.free,I.gN,fun p hp=>?_,tracked,by simpa using I.len⟩
 ·exact(hs.2 b (bx (g7 (a9 e) I.ok.above))).trans (I.base.keep b o e n hb hx)
 ·obtain⟨sl,e1⟩:=I.base.slot b o e n hb hx
  exact⟨sl,(hs.2 b (bx (g7 (a9 e) I.ok.above))).trans e1⟩
 ·obtain⟨o',e1⟩:=I.base.there b o e hx
  exact⟨o',(hs.2 b (bx (g7 (a9 e) I.ok.above))).trans e1⟩
 ·by_cases hj:j=i
  ·subst hj
   by_cases aV:j < σ.length
   ·rw[U9 aV]at e2;cases e2
   ·rw[Ll (by rw[List.length_set];omega)]at e2;cases e2
  ·rw[U' (aN hj)]at e2
   obtain⟨u',r',q⟩:=hl j y v' e1 e2 e3;refine⟨u',r',?_⟩;rcases q with⟨k,e⟩|⟨k,c,e,z⟩
   ·refine .inl ⟨k,?_⟩
    have:y≠x:=fun e=>hj (D4 hN e1 (e ▸ hi));simp[this,e]
   ·exact .inr ⟨k,c,e,z.sameBut hs (lI y c e)⟩
 ·obtain⟨w',z⟩:=I.cell y c e
  exact⟨w',z.sameBut hs (lI y c e)⟩
 ·obtain⟨e,n,ne,nf,d⟩:=I.pin p hp
  exact⟨(hs.2 p.1 ne).trans e,n,ne,nf,d⟩
def Sj (j:Nat) (D:Ends):Ends:={ nx:=fun σ H=>D.nx (σ.set j none) H,rt:=D.rt,bk:=fun σ H=>D.bk (σ.set j none) H,ct:=fun σ H=>D.ct (σ.set j none) H }
def asE (K:Frag) (B:Addr) (j:Nat) (th:Addr->TS) (D:Ends):St->XK:=fun aK cls oa H2=>(∃C,cls = .ref C/\mroIn K C (.ref B)=some true) /\ ∃a,oa=some a/\th a (Sj j D) (aK.set j (some (.ref a))) H2
section
variable{n:Str}{p5 p6 p7:Pos}{b0 b1:Stmt}{Fj:List Stmt}{tb:Ends->TS}{th:Addr->TS}{ci:Option Value}
def abj (tb:Ends->TS):TS:=fun D σ H=>tb D D σ H
end
section
variable{E:XK}
theorem Aw:Passes (d9 P w) (gm (d9 P w) P w K mg base N qual scope f cd A outer s H E) E:=by
 rintro pins σ H1 s1 e s2 I ⟨a,n,C,a0,dx,H',B,rfl,os,bare,Cd,⟨ox,oJ,hd,hz⟩,Jo,na,new,hE⟩;show wpAny (model P w) _ (leaving _ (.ref a)) _ _ _;have xF:s1.os=s.os:=I.os;refine vU L3 (wpAny_leaves_onW (Q:=fun _ s'=>∃h',s'={ s2 with heap:=h' }/\Heap.FlyingW B outer a (.ref C) a0 h'/\s2.heap.UpToSlots h') I.ok.frames rfl Cd fun h' fl up=>⟨h',rfl,fl,up⟩) fun _ s' ⟨h',es,fl,up⟩ rd=>?_;subst es;obtain⟨o',eQ,_⟩:=fl.there;refine⟨a,n,C,a0,dx,H',B,rfl,os.trans xF,bare,fl,⟨o',eQ,(rd.dict oJ eQ).1.trans hd,fun y ey=>(rd.dict oJ eQ).2.trans (hz y ey)⟩,fun iL kb u2=>?_,na,?_,hE⟩
 ·obtain⟨u,ok⟩:=Jo iL kb (Lo up u2)
  have J:=I.Am (s':={ s2 with heap:=iL }) os u ok bare (fun b z=>absurd z (by simp))
  exact⟨J.base,J.au⟩
 ·cases q:s.heap.get? a with
  |none=>rfl
  |some o =>
   obtain⟨o2,e2⟩:=I.base.there a o q (by show a ∉ ([]:List Addr);simp)
   rw[new]at e2;cases e2
end
end L2
namespace L2
open PySem PySem.W
section
variable{f0:Addr}{E:XK}{k:Nat}{p:Pos}{t:TA}
theorem aaj (C:dq P w K mg base (d9 P w) k f fd ps sp x) (hr:bb k (gm (d9 P w) P w K mg base N qual scope f0 cd A outer s H E).A) (ha:PA (gm (d9 P w) P w K mg base N qual scope f0 cd A outer s H E) (e::es) t) (hg:Gl (gm (d9 P w) P w K mg base N qual scope f0 cd A outer s H E) x:=by rfl) (cN:(x==("__debug__" : Str))=false:=by decide) (he:starEach (e::es) (gm (d9 P w) P w K mg base N qual scope f0 cd A outer s H E).env=(false,eval e (gm (d9 P w) P w K mg base N qual scope f0 cd A outer s H E).env)::starEach es (gm (d9 P w) P w K mg base N qual scope f0 cd A outer s H E).env:=by rfl) (cS:(backTo pos (starEach es (gm (d9 P w) P w K mg base N qual scope f0 cd A outer s H E).env)).any (·.1)=false:=by rfl):PE (gm (d9 P w) P w K mg base N qual scope f0 cd A outer s H E) (.Call (.Name x p) (e::es) [] pos) (Aq sp [] E t):=iT C.G hr hg C.m C.k C.b .nil Aw ha cN he cS
end
section
variable{wF:List (Addr×Obj)}{EE:St->XK}{k:Nat}{p:Pos}{t:TA}
theorem aak (C:dq X.prog X.w X.K X.mg X.base (d9 X.prog X.w) k f fd ps sp x) (hr:bb k X.A) (ha:PA (X.lx wF EE) (e::es) t) (hg:Gl X x:=by rfl) (cN:(x==("__debug__" : Str))=false:=by decide) (he:starEach (e::es) X.env=(false,eval e X.env)::starEach es X.env:=by rfl) (cS:(backTo pos (starEach es X.env)).any (·.1)=false:=by rfl):PE (X.lx wF EE) (.Call (.Name x p) (e::es) [] pos) (OK sp EE t):=Zc C.G hr hg C.m C.k C.b ha cN he cS
end
end L2
namespace L2
open PySem PySem.Spec PyProof.Rows PySem.W
section
variable{n:Str}{p5 p6 p7:Pos}{b0 b1:Stmt}{Fj:List Stmt}{tb:Ends->TS}{th:Addr->TS}{ci:Option Value}
theorem Yi {more:List ExceptHandler} (hb:∀pins D,ff (X.lx pins (asE X.K C j th D)) (b1::body) (tb D))
  (hN:X.N.Nodup) (hj:X.N[j]? = some n) (hn:X.env.scope.names.lookup n=some .local) (h0:X.xe=fun _ _=>False) (hc:X.calm=true) (hs:X.stack=X.env::X.outer) (hf:X.env.frame=some X.env.locals)
  (gc:Gl X cn) (mc:X.mg cn=some (.ref C)) (qc:jS X.K C ci=true) (hh:∀a,ff (X.rb a) (b0::Fj) (th a)) (hdc:(cn==("__debug__" : Str))=false:=by decide) :
  PS X (.Try (b1::body) (.ExceptHandler (some (.Name cn p5)) (some n) (b0::Fj) p6::more) [] [] p7) (abj tb):=by
 intro pins s σ H D I h;refine wpAny_Try_except ?_;refine lZ (hb pins D [] s σ H D I.lx h) (fun fl s1 z=>?_) fun ev s2 z=>?_
 ·have z':=SP.rB I.ok z
  cases fl with
  |next=>exact za z'
  |brk=>exact z'
  |cont=>exact z'
  |ret u=>exact z'
 ·obtain⟨aK,H0,s1,I1,a,nn,C',a0,dx,H',B,rfl,os,bare,Cd,⟨ox,oJ,hd,hz⟩,Jo,na,new,⟨C2,eC,me⟩,a',ea,xY⟩:=z
  cases ea
  cases eC
  rw[hs]at Cd;refine vU Oa (wpAny_looks_onW (Q:=fun _ s'=>∃h',s'={ s2 with heap:=h' }/\Heap.HeldW B (X.env::X.outer) a (.ref C') a0 X.env.locals h'/\s2.heap.UpToSlots h') (by rw[<-hs];exact I1.ok.frames) hf Cd fun h3 held qf=>⟨h3,rfl,held,qf⟩) fun _ s3 ⟨h3,e3,held,qf⟩ rd3=>?_
  subst e3;refine vU DA (wpAny_landsW (Q:=fun _ s'=>∃h',s'={ s2 with heap:=h' }/\Heap.FlyingW B (X.env::X.outer) a (.ref C') a0 h'/\h3.UpToSlots h') held fun h4 xa qg=>⟨h4,rfl,xa,qg⟩) fun _ s4 ⟨h4,e4,xa,qg⟩ rd4=>?_;subst e4;have up:s2.heap.UpToSlots h4:=Lo qf qg;have rd:RD s2.heap h4:=rd3.trans rd4;have lay:∀h5,Heap.FlyingW B (X.env::X.outer) a (.ref C') a0 h5->s2.heap.UpToSlots h5->RD s2.heap h5->Inv X pins aK (upd H' a (n8 nn C' dx a)) { s2 with heap:=h5 }:=fun h5 f5 u5 r5=>by
   obtain⟨u,ok⟩:=Jo h5 f5.1 u5;obtain⟨o5,e5,_⟩:=f5.there;exact I1.Am (s':={ s2 with heap:=h5 }) os (u.add na new) (aag ok na (aaf f5 ⟨o5,e5,(r5.dict oJ e5).1.trans hd,fun y ey=>(r5.dict oJ e5).2.trans (hz y ey)⟩)) bare (fun b z=>absurd z (by simp))
  have J:=lay h4 xa up rd;obtain⟨o4,kR,sr⟩:=xa.there;refine wpAny_handleBy_cons (codeAny_handlers_test ?_) (by intro z;cases z)
  refine tR (J.rb a) gc mc ?_ hdc;refine WA (K:=X.K) J.bX qc me kR sr ?_;refine codeAny_handlers_suite_as ?_;refine vU DA (lands_againW (Q:=fun _ s'=>∃h',s'={ s2 with heap:=h' }/\Heap.FlyingW B (X.env::X.outer) a (.ref C') a0 h'/\h4.UpToSlots h') xa fun h5 F8 Jp=>⟨h5,rfl,F8,Jp⟩) fun _ s5 ⟨h5,e5,F8,Jp⟩ rd5=>?_;subst e5;have J5:=lay h5 F8 (Lo up Jp) (rd.trans rd5);refine vJ (X:=X.rb a) (v:= .ref a) (J5.rb a) hN hj (.inl hn) rfl (fun s6 I6=>?_) (.inr hn);refine K0 (aw (hh a pins _ _ _ (Sj j D) I6 xY) fun fl s7 z=>?_);cases fl with
  |next=>obtain⟨i7,H7,I7,q⟩:=z;exact zV (I7.uncaught (Y:=X) J5.ok) hN hj hn fun s8 I8=>⟨_,H7,I8,q⟩
  |brk=>obtain⟨i7,H7,I7,q⟩:=z;exact zV (I7.uncaught (Y:=X) J5.ok) hN hj hn fun s8 I8=>⟨_,H7,I8,q⟩
  |cont=>obtain⟨i7,H7,I7,q⟩:=z;exact zV (I7.uncaught (Y:=X) J5.ok) hN hj hn fun s8 I8=>⟨_,H7,I8,q⟩
  |ret u=>obtain⟨v,i7,H7,I7,r,q⟩:=z;exact zV (I7.uncaught (Y:=X) J5.ok) hN hj hn fun s8 I8=>⟨v,_,H7,I8,r,q⟩
end
theorem noFill_list_mul:fillsNumberSlot (.type "list") "mul" = pure false:=
 PySem.fillsNumberSlot_seq (id:= "list.__mul__") (r:=some (.builtin "list.__rmul__")) VT.lookup (by decide +kernel) an6.lookup (by decide +kernel)
theorem repeat_list:seqRepeat? (.type "list")=pure (some (.builtin "list.__mul__")):=by
 unfold seqRepeat?;rw[PySem.seqSlot_of (T:= "list") (name:= "__mul__") (id:= "list.__mul__") VT.lookup (by decide +kernel),PySem.seqSlot_of (T:= "list") (name:= "__rmul__") (id:= "list.__rmul__") an6.lookup (by decide +kernel)]
 rfl
theorem WB (a:Int) (t:Tok) (l:Addr) (items:Array Value) (n:Nat) (dd:Option Addr) (sl:Array (Option Value)) :
  Meets (Builtin.«int.__rmul__» ⟨[.int a t,.ref l],[]⟩) (fun _ R s=>s.heap.get? l=some { cls:= .type "list",dict:=dd,data:= .seq items n,slots:=sl }/\R (.ok (.ret Value.notImplemented)) s):=
 .of_wp fun prog w A R s h=>by obtain⟨hp,g,d,tk,os⟩:=s;obtain⟨hl,h⟩:=h;wp_walk;exact⟨_,rfl,h⟩
theorem MN {it t:Addr}{items:Array Value} (bY:t≠it):∀ (n i:Nat) (s:Shared) (Q:List Value->Shared->Prop),s.heap.IsListIter it t i->s.heap.IsList t items->i+n<=items.size ->
  (∀h',h'.IsListIter it t (i+n)->Heap.SameBut it s.heap h'->Q ((items.toList.drop i).take n) { s with heap:=h' })->wpAny (model P w) A (draw (.ref it) n) Q E s
 |0,i,s,Q,hit,_,_,hQ=>by
  show wpAny _ _ (pure []) Q E s;exact ai (by simpa using hQ s.heap hit (Heap.SameBut.refl ..))
 |n+1,i,s,Q,hit,ht,hle,hQ=>by
  have aV:i < items.size:=by omega
  show wpAny _ _ (pyNext (.ref it) >>= _) Q E s;refine aa (Vb hit ht (x:=items[i]) (by simp[aV]) fun jX E3 lA=>?_)
  refine aa (eI (MN bY n (i+1) _ _ E3 (ht.extBut lA.extBut bY) (by omega) fun jY abk ace=>ai ?_))
  have hd:items.toList.drop i=items[i]::items.toList.drop (i+1):=by simp[vp,aV]
  have:=hQ jY (by rw[show i+(n+1)=i+1+n by omega];exact abk) (lA.trans ace)
  rw[hd,List.take_succ_cons]at this;exact this
theorem WV {t:Addr}{Q:List Value->Shared->Prop} (hh:A.handled=none) (ht:s.heap.IsList t items)
  (hQ:∀h',Heap.ExtBut s.heap.objs.size s.heap h'->Q items.toList { s with heap:=h' }):wpAny (model P w) A (unpackItems (.ref t) items.size none) Q E s:=by
 have aV:t≠s.heap.objs.size:=by obtain⟨o,ho,_⟩:=ht;exact bx (a9 ho)
 unfold unpackItems;refine aa ?_
 ·unfold notIterableAtAll
  refine aa (Vz ht.typeIs F.slot_list_iter.lookup ?_);refine ai ?_;simp only[oZ,ir];refine aa (eI (zd ht ?_));refine aa (eI (MN aV items.size 0 _ _ ⟨_,cp _ rfl,rfl,rfl⟩ (ht.push _) (by omega) fun jX E3 lA=>?_))
  have FU:List.take items.size (List.drop 0 items.toList)=items.toList:=by
   rw[Ld];exact Dk (by simp)
  rw[FU];rw[aj (by simp)]
  have acf:jX.IsList t items:=(ht.push _).extBut lA.extBut aV;refine aa (eI (Vc hh E3 acf (by simp) fun jY rC=>?_))
  simp only[Option.isSome_none,oZ,ir];refine ai (hQ jY fun b o hb e=>rC b o hb (lA.extBut b o hb (a8 _ e)))
def acg (K:PySem.W.Frag) (n:Nat) (t:mK):TG:=fun v σ H Q=>∃a xs,v = .ref a/\ak K H a xs/\xs.length=n/\t xs σ H Q
theorem aal {k:Nat}{t:mK} (hc:X.calm=true) (h:uH X es t)
  (hn:(assignEach es X.env).length=n:=by rfl) (fj:(assignEach es X.env).findIdx? (·.1)=none:=by rfl):PG X (.Tuple es k pos) (acg X.K n t):=by
 intro pins s σ H v u Q I r hw;obtain⟨a,xs,e1,hq,hl,hw⟩:=hw;subst e1;cases r
 obtain⟨its,rv,ht,hz⟩:=I.list hq;rw[arm_assign_Tuple];refine aa (nC ?_);unfold unpack;rw[fj];have e:(assignEach es X.env).length=its.toArray.size:=by simp[hn,<-hl,rv.length]
 rw[e];refine aa (eI (WV (I.ok.hd hc) ht.isList fun h' hx=>?_));have I1:Inv X pins σ H { s with heap:=h' }:=I.kept (t':=s.toks) fun b o e=>hx b o (bx (a9 e)) e;exact h pins _ σ H xs _ Q I1 (by simpa using rv) hw
theorem Yj (l:Addr) (v:Value) (n:Nat) (dd:Option Addr) (sl:Array (Option Value)) (t:Tok) :
  Meets (Builtin.«list.__mul__» ⟨[.ref l,.int 0 t],[]⟩) (fun _ R s=>s.heap.get? l=some { cls:= .type "list",dict:=dd,data:= .seq #[v] n,slots:=sl }/\R (.ok (.ret (Value.ref s.heap.objs.size))) { s with heap:=s.heap.push { cls:=Value.type "list",data:=Data.seq #[] },toks:=s.toks }):=
 .of_wp fun prog w A R s h=>by
  obtain⟨hp,g,d,tk,os⟩:=s;obtain⟨hl,h⟩:=h;have f1:=AutoSeq1.idx_int;have f2:=AutoSeq1.sub_tuple_tuple;have f3:=AutoSeq1.sub_list_list;have f4:=AutoSeq1.sub_tuple_list;have f5:=AutoSeq1.sub_list_tuple
  wp_walk using VS hl
  exact⟨_,rfl,h⟩
def abl (K:PySem.W.Frag):R2:=fun x y H Q=>∃a v,x = .ref a/\y = .int 0/\ak K H a [v] /\ ∀p,H p=none->Q (.ref p) (upd H p (.lst []))
theorem Zd:cI X (binaryOp .Mult) (abl X.K):=by
 intro pins s σ H x y v u Q I rx ry h;obtain⟨a,z,rfl,rfl,ha,q⟩:=h;cases rx
 obtain⟨t,rfl⟩:=ry;obtain⟨its,r1,p1,_⟩:=I.list ha;obtain⟨z',rfl,rz⟩:=vals1 r1;obtain⟨⟨cls,dd,data,sl⟩,n,ho,hc,lP,hd⟩:=id p1;simp only at hc hd lP;subst hc hd lP;refine wpAny_binaryOp_repeat_ref (T:= "list") (U:= "int") (by decide) ⟨_,ho,rfl⟩ (fun s'=>typeIs_int s' 0 t) noFill_list_mul PySem.F.fills_int_mul an8 repeat_list PySem.F.slot_int_index.lookup
  (sQ an8 (typeIs_int s 0 t) PySem.F.entry_int_rmul (PySem.F.args_int_rmul_2 _ _) (WB 0 t a #[z'] n none sl)
   ⟨ho,rfl,⟨_,ho,rfl⟩,sQ VT ⟨_,ho,rfl⟩ PySem.F.entry_list_mul (PySem.F.args_list_mul_2 _ _) (Yj a z' n none sl t) ⟨ho,?_⟩⟩)
 refine⟨.ref s.heap.objs.size,_,I.laid (t':=s.toks) (o:= .lst []) (fun b ob q=>a8 _ q) (aP _) ?_,rfl,q _ (I.au.fresh (aP _))⟩;exact⟨bf _,[],_,.nil,cp _ rfl⟩
end L2
namespace L2
open PySem PySem.Spec PyProof.Rows PySem.W HT
theorem WC (d:Addr) (hd:(d==sysModules)=false) :
  MeetsIn P w (Builtin.«dict.items» ⟨[.ref d],[]⟩) (fun _ R s=>(∃es ep,rH s.heap d es ep)/\R (.ok (.ret (.ref s.heap.objs.size))) { s with heap:=s.heap.push { cls:= .type "dict_items",data:= .fields #[.ref d] } }):=
 .of_wp fun A R s ⟨⟨es,ep,hm⟩,h⟩=>by
  unfold Builtin.«dict.items»;refine aa ?_;unfold Builtin.Dict.noArgs;refine aa (wpAny_notOrdered_dict hm.ty ?_);show wpAny _ _ (pure d) _ _ s;refine ai ?_;show wpAny _ _ (Builtin.Dict.showsAll d >>= _) _ _ s;unfold Builtin.Dict.showsAll;rw[aj (by rw[hd];exact cw)]
  exact aa (ai (aa (iP (ai ⟨_,rfl,h⟩))))
theorem WW {v:Addr}{es:Array DictEntry} (hv:s.heap.IsItemsView v d) (x:rH s.heap d es ep)
  (hQ:Q (.ref s.heap.objs.size) { s with heap:=s.heap.push { cls:= .type "dict_itemiterator",data:= .fields #[.none,.bool false,.ref d,.int 0 0,.int es.size 0,.int ep 0,.none,.none] } }):wpAny (model P w) A (pyIter (.ref v)) Q E s:=by
 obtain⟨ov,hov,hcv,hdv⟩:=id hv;obtain⟨o,ho,hc,Qi⟩:=id x;refine Lk hv.typeIs F.slot_dict_items_iter (md F.slot_dict_items_iter hv.typeIs F.entry_dict_items_iter ?_ (F.args_dict_items_iter_1 _));unfold Builtin.«dict_items.__iter__»;refine aa (ai (aa ?_));unfold Builtin.Dict_items.dictOf;refine aa (sO hov hdv (x:= .ref d) rfl (ai (aa ?_)));unfold Builtin.Dict_items.newIterator;refine aa (VU ho Qi (aa (VV ho Qi ?_)));simp only[show Builtin.Dict_items.ownsTuple "dict_itemiterator" = true by decide,kA]
 refine iP (ai ⟨_,rfl,"dict_itemiterator",_,⟨_,cp _ rfl,rfl⟩,Dl.lookup,?_⟩) (by simp only[sizeOk,Builtin.Dict_items.ownedTupleFields,b8,dz,d7,sS,aT];omega)
 simpa [rawInt,Builtin.Dict_items.ownedTupleFields] using hQ
theorem WX {es:Array DictEntry}{e:DictEntry}{ok ov:Value}{Q:Option Value->Shared->Prop} (hit:IsItemIter s.heap it d i es.size ep ok ov) (x:rH s.heap d es ep) (hx:es[i]? = some e)
  (hQ:∀h',IsItemIterOut h' it d (i+1) es.size ep e.key e.val s.heap.objs.size->h'.get? s.heap.objs.size=some { cls:= .type "tuple",data:= .seq #[e.key,e.val] }->h'.objs.size=s.heap.objs.size+1 ->
   (∀b o,b≠it->s.heap.get? b=some o->h'.get? b=some o)->Q (some (.ref s.heap.objs.size)) { s with heap:=h' }):wpAny (model P w) A (pyNext (.ref it)) Q E s:=by
 obtain⟨hp,g,dr,tk,os⟩:=s;obtain⟨od,j7,fg,lP⟩:=id x;have hT:Shared.TypeIs ⟨hp,g,dr,tk,os⟩ (.ref it) "dict_itemiterator" :=⟨_,hit,rfl⟩;unfold pyNext;refine aa (Df (C9 (name:=Str.ofString "__next__") hT Dl
  (md Dl hT aoa ?_ (aob _))))
 refine aa (ai (aa (aa ?_)))
 first|refine aa (Lp hT (ai ?_))|refine aa (Lq hT (ai ?_))
 refine aa (VJ hit rfl ?_);simp only[show Builtin.Dict_items.ownsTuple "dict_itemiterator" = true by decide,kA]
 show wpAny _ _ (if (Value.ref d==Value.none)=true then _ else _) _ _ _;rw[aj (show ¬ ((Value.ref d==Value.none)=true) from cw)];refine aa (ai (aa (VU j7 lP ?_)));rw[aj (by simp)]
 refine aa (ai (aa (VV j7 lP ?_)));rw[aj (by simp)]
 refine ai ?_;simp only[show ¬ ((i:Int) < 0) from by omega,ir,oX,hx]
 refine aa ?_
 first|refine aa (Lp hT (ai ?_))|refine aa (Lq hT (ai ?_))
 refine aa (VW hT ?_);show wpAny _ _ (setField (.ref it) 3 (rawInt ((i:Int)+1)) >>= _) _ _ ⟨hp,g,dr,tk,os⟩;refine aa (nI hit (by simp) fun jX wG lA=>?_)
 replace lA:Heap.SameBut it hp jX:=lA;replace wG:IsItemIter jX it d (i+1) es.size ep ok ov:=by
  have e:((i+1:Nat):Int)=(i:Int)+1:=by omega
  unfold IsItemIter;rw[e];simpa [rawInt] using wG
 have Fl:Shared.TypeIs ⟨jX,g,dr,tk,os⟩ (.ref it) "dict_itemiterator" :=⟨_,wG,rfl⟩;refine aa (eI ?_);refine aa (VW Fl (aa (VW Fl ?_)));show wpAny _ _ (Builtin.Dict_items.pairFromOwner (.ref it) 6 e.key e.val) _ _ ⟨jX,g,dr,tk,os⟩;unfold Builtin.Dict_items.pairFromOwner;refine aa (wpAny_newTuple ?_);have rC:IsItemIter (jX.push { cls:= .type "tuple",data:= .seq #[e.key,e.val] }) it d (i+1) es.size ep ok ov:=a8 _ wG;generalize Ax:jX.push { cls:= .type "tuple",data:= .seq #[e.key,e.val] }=jY at rC;have Ay:jX.objs.size=hp.objs.size:=lA.1;have cD:it < hp.objs.size:=a9 hit;have ach:jY.get? hp.objs.size=some { cls:= .type "tuple",data:= .seq #[e.key,e.val] }:=by rw[<-Ax,<-Ay];exact cp _ rfl
 have aci:jY.objs.size=hp.objs.size+1:=by rw[<-Ax,l0,Ay]
 have acj:∀b o,b≠it->hp.get? b=some o->jY.get? b=some o:=fun b o hb e=>by rw[<-Ax];exact a8 _ (lA.extBut b o hb e)
 show wpAny _ _ (Builtin.Dict_items.ownedTupleIsFree (.ref it) >>= _) _ _ ⟨jY,g,dr,tk,os⟩;rw[Ay];clear Ax wG lA Fl Ay jX;refine aa ?_;unfold Builtin.Dict_items.ownedTupleIsFree;refine aa (sO rC rfl (x:= .none) rfl (ai ?_));simp only[kA];refine aa (sO rC rfl (x:=ok) rfl (aa (sO rC rfl (x:=ov) rfl ?_)));refine aa (nI rC (by simp) fun wY Fn wH=>?_)
 replace wH:Heap.SameBut it jY wY:=wH;replace Fn:IsItemIter wY it d (i+1) es.size ep e.key ov:=Fn;refine aa (nI Fn (by simp) fun F9 Fo wI=>?_)
 replace wI:Heap.SameBut it wY F9:=wI;replace Fo:IsItemIter F9 it d (i+1) es.size ep e.key e.val:=Fo;refine aa (nI Fo (by simp) fun Ga Fp wJ=>?_)
 replace wJ:Heap.SameBut it F9 Ga:=wJ;replace Fp:IsItemIterOut Ga it d (i+1) es.size ep e.key e.val hp.objs.size:=Fp;refine aa (nI Fp (by simp) fun AV Fq wK=>?_)
 replace wK:Heap.SameBut it Ga AV:=wK;replace Fq:IsItemIterOut AV it d (i+1) es.size ep e.key e.val hp.objs.size:=Fq;refine aa (wpAny_letGo (ai (ai ⟨_,rfl,ai (hQ AV Fq ?_ ?_ ?_)⟩)))
 ·exact wK.extBut _ _ (oV cD) (wJ.extBut _ _ (oV cD) (wI.extBut _ _ (oV cD) (wH.extBut _ _ (oV cD) ach)))
 ·show AV.objs.size=hp.objs.size+1
  rw[wK.1,wJ.1,wI.1,wH.1,aci]
 ·exact fun b o hb e=>wK.extBut b o hb (wJ.extBut b o hb (wI.extBut b o hb (wH.extBut b o hb (acj b o hb e))))
theorem WY {es:Array DictEntry}{ok ov:Value}{Q:Option Value->Shared->Prop} (hh:A.handled=none) (hit:IsItemIter s.heap it d es.size es.size ep ok ov) (x:rH s.heap d es ep)
  (hQ:∀h',Heap.ExtBut it s.heap h'->Q none { s with heap:=h' }):wpAny (model P w) A (pyNext (.ref it)) Q E s:=by
 obtain⟨od,j7,fg,lP⟩:=id x;have hT:s.TypeIs (.ref it) "dict_itemiterator" :=⟨_,hit,rfl⟩;unfold pyNext;refine aa (Df (C9 (name:=Str.ofString "__next__") hT Dl
  (md Dl hT aoa ?_ (aob _))))
 refine aa (ai (aa (aa ?_)))
 first|refine aa (Lp hT (ai ?_))|refine aa (Lq hT (ai ?_))
 refine aa (VJ hit rfl ?_);simp only[show Builtin.Dict_items.ownsTuple "dict_itemiterator" = true by decide,kA]
 show wpAny _ _ (if (Value.ref d==Value.none)=true then _ else _) _ _ s;rw[aj (show ¬ ((Value.ref d==Value.none)=true) from cw)];refine aa (ai (aa (VU j7 lP ?_)));rw[aj (by simp)]
 refine aa (ai (aa (VV j7 lP ?_)));rw[aj (by simp)]
 refine ai ?_;simp only[show ¬ ((es.size:Int) < 0) from by omega,ir,oX,Dj (aP es.size)]
 refine aa ?_
 first|refine aa (Lp hT (ai ?_))|refine aa (Lq hT (ai ?_))
 show wpAny _ _ (setField (.ref it) 2 .none >>= _) _ _ s;refine aa (wpAny_setField hit rfl (by simp) ?_)
 show wpAny _ _ (newExc (.type "StopIteration") [] >>= _) _ _ _;refine aa ?_;simp only[newExc,newTuple];refine aa (iP ?_ (by size_fits))
 refine aa (m:=firstArgMember _ _) (wpAny_of_eq (a:=Value.none) (by first|rfl|(simp only[firstArgMember];rfl)) ?_)
 refine iP ?_ (by size_fits)
 simp only[raiseNew];refine aa (wpAny_handled ?_);rw[show A.in1.handled=none from hh];refine aa (ai (Li ?_));refine aa (VL (T:= "StopIteration") (b:=true) ⟨_,cp _ rfl,rfl⟩ isSubtype_stop ?_);exact ai (hQ _ (((Dh ..).extBut.push _).push _))
def Jq (d:Addr) (o:Obj) (kvs:List (List Key×V)):It:=⟨fun i H=>H d=some (.cq o (.dT kvs))/\i < kvs.length,fun i H x H'=>∃t kv b,H t=none/\x = .ref t/\kvs[i]? = some kv/\H b=some (.tup (kv.1.map kV))/\H'=upd H t (.tup [.ref b,kv.2]),fun i H=>H d=some (.cq o (.dT kvs))/\kvs.length<=i⟩
theorem Nv {es:Array DictEntry} (I:Inv X pins σ H s) (hd:H d=some (.cq o (.dT kvs))) (jb:o.data = .dict es ep) :
  s.heap.get? d=some o/\o.ExactDict/\es.size=kvs.length /\ ∀ (i:Nat) (kv:List Key×V),kvs[i]? = some kv -> ∃ (b:Addr) (e:DictEntry),es[i]? = some e/\e.key = .ref b/\H b=some (.tup (kv.1.map kV))/\RelV kv.2 e.val:=by
 obtain⟨h1,z,y,xs,r,o',gb,uF,h2,h3,h4,h5,h6⟩:=(show bu X.prog X.w H s.heap d (.cq o (.dT kvs)) from I.au d _ hd);rw[h1]at h2;cases h2
 rw[jb]at h4;cases h4
 refine⟨h1,h3,by rw[size_of_entries h5];exact(gZ r).symm,fun i kv hk=>?_⟩
 obtain⟨x,hx,e1,e2,e3⟩:=Paired.get r hk;exact⟨x.2.1,_,by rw[entry_at h5,hx];rfl,rfl,e2,e3⟩
theorem Ze (d it:Addr) (bY:d≠it) (o:Obj) (kvs:List (List Key×V)) (es:Array DictEntry) (ep:Nat) (jb:o.data = .dict es ep) :
  Turn P w K (.Tuple elts n1 tp) (Jq d o kvs) [it] it (fun i h=>i<=kvs.length /\ ∃ok ov,IsItemIter h it d i es.size ep ok ov) where
 mem:=by simp
 obj:=fun i h st b hb=>by
  obtain rfl:b=it:=by simpa using hb
  obtain⟨_,ok,ov,h1⟩:=st;exact⟨_,h1,fun v q=>by cases q⟩
 keep:=fun i h h' st k=>by
  obtain⟨l,ok,ov,h1⟩:=st;exact⟨l,ok,ov,k it (by simp) _ h1⟩
 item:=by
  intro X hP hw hK hc i pins s σ H E I hf st hg;subst hP hw hK;have fi:=hf it (by simp)
  obtain⟨hle,ok,ov,h1⟩:=st;obtain⟨g1,g2,g3,g4⟩:=Nv I hg.1 jb;have cD:i < kvs.length:=hg.2;have Sm:kvs[i]? = some kvs[i]:=b4 hg.2;obtain⟨b,e,he,hk,hb,rv⟩:=g4 i _ Sm;refine WX h1 ⟨o,g1,g2,jb⟩ he fun h' e1 t1 z1 k1=>⟨_,rfl,?_⟩;refine wpAny_letOwnedTupleGo_items (s:={ s with heap:=h' }) e1 fun iL e2 sb=>?_;have eS:it≠s.heap.objs.size:=bx (a9 h1);have k2:∀b o,b≠it->s.heap.get? b=some o->iL.get? b=some o:=fun b o n1 q=>(sb.2 b n1).trans (k1 b o n1 q);have t2:iL.get? s.heap.objs.size=some { cls:= .type "tuple",data:= .seq #[e.key,e.val] }:=(sb.2 _ (aN eS)).trans t1;have hn:H s.heap.objs.size=none:=I.au.fresh (aP _);have lt:∀b o,s.heap.get? b=some o->b≠s.heap.objs.size:=fun b o q=>bx (a9 q);have kH:∀b o,H b=some o->b≠it:=fun b o q z=>by rw[z,fi.1]at q;cases q
  have iH:∀b,b ∉ [it]->b≠it:=fun b hb z=>hb (by simp[z])
  have J:Inv X pins σ (upd H s.heap.objs.size (.tup [.ref b,kvs[i].2])) { s with heap:=iL }:=by
   refine I.step (g':=s.gens) (d':=s.drawn) (t':=s.toks) (ch:= [it]) (fun b hb=>?_) (fun b o _ _ hc q _=>k2 b o (iH b hc) q) (fun b o _ _ hc q _=>⟨o.slots,k2 b o (iH b hc) q⟩)
    (fun b o _ q n=>by rw[ag (lt b o q)];exact n) (fun b o hc q=>⟨o,k2 b o (iH b hc) q⟩) (fun b ys q=>by rw[ag (aq q hn)];exact q) (fun b o v q=>by rw[ag (aq q hn)];exact q)
    (fun b ps q=>⟨#[],by rw[ag (aq q hn),q];simp⟩) (fun m hm=>?_) (fun b o q=>?_) I.bare
   ·obtain rfl:b=it:=by simpa using hb
    exact⟨fi.2.2.2.1,fi.2.1,fi.2.2.2.2.1,fi.2.2.2.2.2⟩
   ·obtain⟨o,es,ep,ho,r⟩:=hm
    exact⟨o,es,ep,k2 _ o (aN fi.2.1) ho,r⟩
   ·by_cases hb:b=s.heap.objs.size
    ·subst hb
     rw[af]at q;cases q;exact⟨by rw[aT];show 2<=_;decide,[e.key,e.val],.cons (by rw[hk];rfl) (.cons rv .nil),_,t2,rfl,_,rfl,rfl⟩
    ·rw[ag hb]at q
     refine(I.au b o q).hW (fun c v hc z=>?_) (fun c z=>by rw[ag (aq z hn)];exact z) fun c ys z=>by rw[ag (aq z hn)];exact z
     rcases hc with hc|hc
     ·subst hc;exact k2 _ v (kH _ _ q) z
     ·exact k2 c v (kH _ _ hc) z
  refine⟨.ref s.heap.objs.size,_,J,rfl,⟨s.heap.objs.size,kvs[i],b,hn,rfl,Sm,hb,rfl⟩,⟨hg.2,_,_,e2⟩,fun b hb=>?_⟩;obtain rfl:b=it:=by simpa using hb
  rw[ag eS];exact fi.1
 done:=by
  intro X hP hw hK hc i pins s σ H E I hf st hg;subst hP hw hK;have fi:=hf it (by simp)
  obtain⟨hle,ok,ov,h1⟩:=st;obtain⟨g1,g2,g3,g4⟩:=Nv I hg.1 jb;have ei:i=es.size:=by rw[g3];exact Nat.le_antisymm hle hg.2
  rw[ei]at h1;exact WY (I.ok.hd hc) h1 ⟨o,g1,g2,jb⟩ fun h' eb=>⟨rfl,I.turned (t':=s.toks) (fun b o hb q=>eb b o hb q) fi.1 fi.2.1 fi.2.2.2.1 fi.2.2.2.2.1 fi.2.2.2.2.2⟩
 self:=fun _ _ _ _ _ st h=>by
  obtain⟨_,ok,ov,h1⟩:=st;exact kcp_self h1 h
def aam (te:TE):TI:=fun σ H R=>te σ H fun v H1=>∃d kvs,v = .ref d/\H1 d=some (.dT kvs) /\ ∀o,R (Jq d o kvs) (upd H1 d (.cq o (.dT kvs)))
theorem Yk {kF:Pos} (he:PE X e te) (wy:attributeBase e "items" X.env (eval e X.env)=eval e X.env:=by rfl) (wz:(apos.endLine==kF.line)=true:=by rfl) :
  PI X (.Tuple elts n1 tp) (.Call (.Attribute e "items" apos) [] [] kF) (aam te):=by
 intro pins s σ H R I h;refine wpAny_Call_method (T:= "dict") (id:= "dict.items") wy rfl wz F.plainAttrs_dict F.slot_dict_items F.type_dict_items (aw (he pins s σ H _ I h) fun v s1 ⟨y,H1,I1,r1,d,kvs,ey,e,q⟩=>?_);subst ey;cases r1
 obtain⟨z,hs,xs,r,o,es,ep,ho,hx,jb,h4,h5⟩:=(show bu X.prog X.w H1 s1.heap d (.dT kvs) from I1.au d _ e);have raw:∀h:Heap,h.get? d=some o->rH h d es ep:=fun h e=>⟨o,e,hx,jb⟩;refine⟨(raw s1.heap ho).ty,?_,?_⟩
 ·intro a e
  cases e
  exact⟨o,ho,hx.2.1⟩
 refine method_meetsIn F.slot_dict_items F.entry_dict_items rfl (anB ⟨rfl,(raw s1.heap ho).ty,F.args_dict_items_1 _,_,WC d hs,⟨es,ep,raw _ ho⟩,?_⟩);have bY:d≠s1.heap.objs.size+1:=fun z=>absurd (a9 ho) (by rw[z];exact Nat.not_lt_of_le (jN _))
 have oH:=a8 { cls:= .type "dict_items",data:= .fields #[.ref d] } ho;refine WW (s:={ s1 with heap:=s1.heap.push { cls:= .type "dict_items",data:= .fields #[.ref d] } }) ⟨_,cp _ rfl,rfl,rfl⟩ (raw _ oH) ?_;have ez:(s1.heap.push { cls:= .type "dict_items",data:= .fields #[.ref d] }).objs.size=s1.heap.objs.size+1:=l0 ..;have I2:Inv X pins σ H1 { s1 with heap:=(s1.heap.push { cls:= .type "dict_items",data:= .fields #[.ref d] }).push { cls:= .type "dict_itemiterator",data:= .fields #[.none,.bool false,.ref d,.int 0 0,.int es.size 0,.int ep 0,.none,.none] } }:=I1.kept (t':=s1.toks) fun b ob z=>a8 _ (a8 _ z);have st:0<=kvs.length /\ ∃ok ov,IsItemIter ((s1.heap.push { cls:= .type "dict_items",data:= .fields #[.ref d] }).push { cls:= .type "dict_itemiterator",data:= .fields #[.none,.bool false,.ref d,.int 0 0,.int es.size 0,.int ep 0,.none,.none] }) (s1.heap.objs.size+1) d 0 es.size ep ok ov:=
  ⟨bf _,.none,.none,by show Heap.get? _ (s1.heap.objs.size+1)=_;rw[<-ez];exact cp _ rfl⟩
 have hfr:H1 (s1.heap.objs.size+1)=none:=I1.au.fresh (jN _);show IA X pins σ _ R (.ref (s1.heap.push { cls:= .type "dict_items",data:= .fields #[.ref d] }).objs.size) _;rw[ez];refine⟨s1.heap.objs.size+1,[s1.heap.objs.size+1],_,_,_,rfl,I2.aab e (a8 _ oH),Ze d (s1.heap.objs.size+1) bY o kvs es ep jb,st,fun b hb=>?_,q o⟩;obtain rfl:b=s1.heap.objs.size+1:=by simpa using hb
 exact I1.mE (jN _) (by rw[ag (aN bY)];exact hfr)
theorem WZ {g:TG}{Q:VK} (Pv:Nat->List V->St->Hp->Prop) (h0:Pv 0 [] iI (upd H1 p (.lst []))) (hl:∀i ys τ H,Pv i ys τ H->H p=some (.lst ys)/\H d=some (.cq o (.dT kvs)))
  (hs:∀i kv t b ys τ H,kvs[i]? = some kv->H t=none->H b=some (.tup (kv.1.map kV))->Pv i ys τ H->g (.ref t) τ (upd H t (.tup [.ref b,kv.2])) fun cz H4=>ti cz H4 fun b H5=>if b=true then te cz H5 fun y H6=>H6 p=some (.lst ys)/\ys.length < sizeLine /\ ∃m',m' < kvs.length - i/\CW Pv kvs.length (i+1) m' (ys ++ [y]) cz (upd H6 p (.lst (ys ++ [y]))) else ∃m',m' < kvs.length - i/\CW Pv kvs.length (i+1) m' ys cz H5)
  (hd:∀ys τ H,Pv kvs.length ys τ H->Q (.ref p) H):mr (Jq d o kvs) g ti te iI Q p H1:=by
 refine⟨CW Pv kvs.length,⟨kvs.length,by simp,bf _,h0⟩,?_⟩
 rintro i m ys τ H ⟨rfl,hi,pv⟩;obtain⟨hp,hq⟩:=hl i ys τ H pv;refine⟨hp,?_⟩
 by_cases aV:i < kvs.length
 ·refine .inr ⟨⟨hq,aV⟩,fun x H3 y3=>?_⟩
  obtain⟨t,kv,b,ht,ex,lM,hb,e3⟩:=y3;subst e3;subst ex;exact hs i kv t b ys τ _ lM ht hb pv
 ·have e:i=kvs.length:=by omega
  subst e;exact .inl ⟨⟨hq,aP _⟩,hd ys τ H pv⟩
mutual
theorem Dt.ui {p q:Addr}{H H':Hp} (k:∀b o,H b=some o->b≠p->H' b=some o):∀ {v:V}{d:PyData},Dt q H v d->Dt p H v d->Dt q H' v d
 |_,_,.aF,_=>.aF
 |_,_,.bl b,_=>.bl b
 |_,_,.int i,_=>.int i
 |_,_,.str x,_=>.str x
 |_,_,.lst n e rs,h=>by
  cases h with|lst n' e' xZ=>rw[e]at e';cases e';exact .lst n (k _ _ e n') (dw.ui k rs xZ)
 |_,_,.tup n e rs,h=>by
  cases h with|tup n' e' xZ=>rw[e]at e';cases e';exact .tup n (k _ _ e n') (dw.ui k rs xZ)
 |_,_,.qe n e,h=>by cases h with|qe n' e'=>exact .qe n (k _ _ e n')
theorem dw.ui {p q:Addr}{H H':Hp} (k:∀b o,H b=some o->b≠p->H' b=some o):∀ {vs:List V}{ds:List PyData},dw q H vs ds->dw p H vs ds->dw q H' vs ds
 |_,_,.nil,_=>.nil
 |_,_,.cons r rs,.cons r' xZ=>.cons (Dt.ui k r r') (dw.ui k rs xZ)
end
end L2
namespace L2
open PySem PySem.W
abbrev pr (x:Str) (s:Stmt):Str×Stmt:=(x,s)
def Ce (K:Frag):List (Str×Stmt)->Prop
 |[]=>True
 |p::r=>(∃f fd,aY K p.1 p.1 p.2 f fd/\nsIn K mainGlobals p.1=some (some (.ref f)))/\Ce K r
def Gb (K:Frag):List Str->Prop
 |[]=>True
 |x::r=>nsIn K mainGlobals x=some none/\Gb K r
theorem ack {p:Str×Stmt}{r:List (Str×Stmt)}{kV:Value} (a:nsIn K mainGlobals p.1=some (some (.ref f)))
  (l:K.lookup f=some ⟨oc,od,.func (fnOf p.1 p.1 (c9 p.2) (bH p.2) (aI p.2) .none kV doc pm an aH ct),iZ⟩) (c:codeIn K aH p.1=true) (k:keepIn K (.ref f)=true) (g:Ce K r):Ce K (p::r):=⟨⟨f,_,iV l c k,a⟩,g⟩
theorem wg {p:Str×Stmt} (X:K.In h) (G:h.Ns mainGlobals mg) (d:∃f fd,aY K p.1 p.1 p.2 f fd/\nsIn K mainGlobals p.1=some (some (.ref f))) (ps:List Str)
  (b:∀ (kV doc pm:Value) (an:Option Addr) (aH ct:Value) (us:List Value),us.length=ps.length->bindArgs (fnOf p.1 p.1 (c9 p.2) (bH p.2) (aI p.2) .none kV doc pm an aH ct) ⟨us,[]⟩=pure (ps.zip us)) :
  ∃f fd,aY K p.1 p.1 p.2 f fd/\keepIn K (.ref f)=true/\Binds K fd ps []/\mg p.1=some (.ref f):=by
 obtain⟨f,fd,F,a⟩:=d;exact⟨f,fd,F,F.kp,F.binds b,mg_of X G a⟩
theorem Az (h:us.length=n+1):∃u r,us=u::r/\r.length=n:=by
 cases us with
 |nil=>cases h
 |cons u r=>exact⟨u,r,rfl,Nat.succ.inj h⟩
theorem Qj (h:us.length=2):∃a b,us = [a,b]:=by
 obtain⟨a,r,rfl,h2⟩:=Az h;obtain⟨b,rfl⟩:=aoc.mp h2;exact⟨a,b,rfl⟩
theorem Qk (h:us.length=3):∃a b c,us = [a,b,c]:=by
 obtain⟨a,r,rfl,h2⟩:=Az h;obtain⟨b,c,rfl⟩:=Qj h2;exact⟨a,b,c,rfl⟩
theorem Ql (h:us.length=4):∃a b c d,us = [a,b,c,d]:=by
 obtain⟨a,r,rfl,h2⟩:=Az h;obtain⟨b,c,d,rfl⟩:=Qk h2;exact⟨a,b,c,d,rfl⟩
theorem mi {p:Str×Stmt} (X:K.In h) (G:h.Ns mainGlobals mg) (d:∃f fd,aY K p.1 p.1 p.2 f fd/\nsIn K mainGlobals p.1=some (some (.ref f))) (x1:Str)
  (b:∀ (kV doc pm:Value) (an:Option Addr) (aH ct u1:Value),bindArgs (fnOf p.1 p.1 (c9 p.2) (bH p.2) (aI p.2) .none kV doc pm an aH ct) ⟨[u1],[]⟩=pure ([x1].zip [u1]):=by intros;rfl) :
  ∃f fd,aY K p.1 p.1 p.2 f fd/\keepIn K (.ref f)=true/\Binds K fd [x1] []/\mg p.1=some (.ref f):=wg X G d _ fun kV doc pm an aH ct us h=>by obtain⟨u1,rfl⟩:=aoc.mp h;exact b _ _ _ _ _ _ _
theorem jQ {p:Str×Stmt} (X:K.In h) (G:h.Ns mainGlobals mg) (d:∃f fd,aY K p.1 p.1 p.2 f fd/\nsIn K mainGlobals p.1=some (some (.ref f))) (x1 x2:Str)
  (b:∀ (kV doc pm:Value) (an:Option Addr) (aH ct u1 u2:Value),bindArgs (fnOf p.1 p.1 (c9 p.2) (bH p.2) (aI p.2) .none kV doc pm an aH ct) ⟨[u1,u2],[]⟩=pure ([x1,x2].zip [u1,u2]):=by intros;rfl) :
  ∃f fd,aY K p.1 p.1 p.2 f fd/\keepIn K (.ref f)=true/\Binds K fd [x1,x2] []/\mg p.1=some (.ref f):=wg X G d _ fun kV doc pm an aH ct us h=>by obtain⟨u1,u2,rfl⟩:=Qj h;exact b _ _ _ _ _ _ _ _
theorem Ob {p:Str×Stmt} (X:K.In h) (G:h.Ns mainGlobals mg) (d:∃f fd,aY K p.1 p.1 p.2 f fd/\nsIn K mainGlobals p.1=some (some (.ref f))) (x1 x2 x3:Str)
  (b:∀ (kV doc pm:Value) (an:Option Addr) (aH ct u1 u2 u3:Value),bindArgs (fnOf p.1 p.1 (c9 p.2) (bH p.2) (aI p.2) .none kV doc pm an aH ct) ⟨[u1,u2,u3],[]⟩=pure ([x1,x2,x3].zip [u1,u2,u3]):=by intros;rfl) :
  ∃f fd,aY K p.1 p.1 p.2 f fd/\keepIn K (.ref f)=true/\Binds K fd [x1,x2,x3] []/\mg p.1=some (.ref f):=wg X G d _ fun kV doc pm an aH ct us h=>by obtain⟨u1,u2,u3,rfl⟩:=Qk h;exact b _ _ _ _ _ _ _ _ _
theorem EC {p:Str×Stmt} (X:K.In h) (G:h.Ns mainGlobals mg) (d:∃f fd,aY K p.1 p.1 p.2 f fd/\nsIn K mainGlobals p.1=some (some (.ref f))) (x1 x2 x3 x4:Str)
  (b:∀ (kV doc pm:Value) (an:Option Addr) (aH ct u1 u2 u3 u4:Value),bindArgs (fnOf p.1 p.1 (c9 p.2) (bH p.2) (aI p.2) .none kV doc pm an aH ct) ⟨[u1,u2,u3,u4],[]⟩=pure ([x1,x2,x3,x4].zip [u1,u2,u3,u4]):=by intros;rfl) :
  ∃f fd,aY K p.1 p.1 p.2 f fd/\keepIn K (.ref f)=true/\Binds K fd [x1,x2,x3,x4] []/\mg p.1=some (.ref f):=wg X G d _ fun kV doc pm an aH ct us h=>by obtain⟨u1,u2,u3,u4,rfl⟩:=Ql h;exact b _ _ _ _ _ _ _ _ _ _
theorem aan {p:Str×Stmt} (X:K.In h) (G:h.Ns mainGlobals mg) (d:∃f fd,aY K p.1 p.1 p.2 f fd/\nsIn K mainGlobals p.1=some (some (.ref f))) (x1 x2 x3 x4 x5:Str)
  (b:∀ (kV doc pm:Value) (an:Option Addr) (aH ct u1 u2 u3 u4 u5:Value),bindArgs (fnOf p.1 p.1 (c9 p.2) (bH p.2) (aI p.2) .none kV doc pm an aH ct) ⟨[u1,u2,u3,u4,u5],[]⟩=pure ([x1,x2,x3,x4,x5].zip [u1,u2,u3,u4,u5]):=by intros;rfl) :
  ∃f fd,aY K p.1 p.1 p.2 f fd/\keepIn K (.ref f)=true/\Binds K fd [x1,x2,x3,x4,x5] []/\mg p.1=some (.ref f):=wg X G d _ fun kV doc pm an aH ct us h=>by obtain⟨u1,r,rfl,h2⟩:=Az h;obtain⟨u2,u3,u4,u5,rfl⟩:=Ql h2;exact b _ _ _ _ _ _ _ _ _ _ _
theorem Oc (X:K.In h) (G:h.Ns mainGlobals mg):∀ {xs:List Str},Gb K xs -> ∀x∈xs,mg x=none
 |y::r,z,x,m=>by
  rcases bj.mp m with rfl|q
  ·exact mg_none_of X G z.1
  ·exact Oc X G z.2 x q
end L2
namespace L2
open PySem
def eZ (k:Nat):List (List Str)->Str->Option (Nat×Str)
 |[],_=>none
 |[]::rest,n=>eZ (k+1) rest n
 |(x::r)::rest,n=>if n∈x::r/\x≠n then some (k,x) else eZ (k+1) rest n
theorem LA {k:Nat}{n:Str} (h : ¬ (n∈r/\r.head? ≠ some n)):eZ k (r::rest) n=eZ (k+1) rest n:=by
 cases r with
 |nil=>rfl
 |cons x r=>exact aj fun z=>h ⟨z.1,by simpa using z.2⟩
theorem WD {k:Nat}{n:Str} (h:n∈x::r/\x≠n):eZ k ((x::r)::rest) n=some (k,x):=by
 exact ax h
def lg (all:List (List Str)):List (List Str)->Option Str
 |[]=>none
 |[]::rest=>lg all rest
 |(x::_)::rest=>if (eZ 0 all x).isNone then some x else lg all rest
def iu (rest:List (List Str)):Option Str:=lg rest rest
def without (n:Str) (rest:List (List Str)):List (List Str):=rest.map fun r=>r.filter fun y=>!decide (y=n)
def total (rest:List (List Str)):Nat:=(rest.map List.length).sum
def cT:Nat->List (List Str)->Option (List Str)
 |0,_=>some []
 |k+1,rest=>if (rest.any fun r=>!r.isEmpty)=true then (match iu rest with|none=>none|some n=>(cT k (without n rest)).map (n :: ·)) else some []
theorem Dy {all:List (List Str)}{n:Str}:∀ {rest:List (List Str)},lg all rest=some n -> ∃r∈rest,r.head? = some n
 |[],h=>by cases h
 |[]::rest,h=>let ⟨r,hr,e⟩:=Dy (rest:=rest) h;⟨r,bq _ hr,e⟩
 |(x::t)::rest,h=>by
  have h:(if (eZ 0 all x).isNone then some x else lg all rest)=some n:=h;split at h
  ·cases h;exact⟨n::t,aW,rfl⟩
  ·obtain⟨r,hr,e⟩:=Dy (rest:=rest) h
   exact⟨r,bq _ hr,e⟩
theorem Ly (n:Str):∀rest:List (List Str),total (without n rest)<=total rest
 |[]=>aP _
 |r::rest=>by
  have h1:=Ly n rest;have h2:=nJ (fun y=>!decide (y=n)) r;simp only[total,without,fX,Lr]at *;omega
theorem sV {n:Str}:∀ {rest:List (List Str)},(∃r∈rest,n∈r)->total (without n rest) < total rest
 |[],⟨_,h,_⟩=>by simp at h
 |r::rest,⟨q,hq,hn⟩=>by
  have h1:=Ly n rest;have h2:=nJ (fun y=>!decide (y=n)) r;rcases bj.mp hq with rfl|hq
  ·have h3:(q.filter fun y=>!decide (y=n)).length < q.length:=by
    exact List.length_filter_lt_length_iff_exists.mpr ⟨n,hn,by simp⟩
   simp only[total,without,fX,Lr]at *;omega
  ·have h3:=sV ⟨q,hq,hn⟩
   simp only[total,without,fX,Lr]at *;omega
theorem le_total {r:List Str}:∀ {rest:List (List Str)},r∈rest->r.length<=total rest
 |[],h=>by simp at h
 |q::rest,h=>by
  have e:total (q::rest)=q.length+total rest:=by simp[total]
  rcases bj.mp h with rfl|h
  ·omega
  ·have:=le_total h
   omega
theorem DU (h:(rest.any fun r=>!r.isEmpty)=true):0 < total rest:=by
 obtain⟨r,hr,e⟩:=zk.mp h;have h1:0 < r.length:=by cases r with
  |nil=>simp at e
  |cons _ _=>simp
 have h2:r.length<=total rest:=le_total hr;omega
def e7 (H:Hp) (vs:List V) (rows:List (List Str)):Prop:=Paired (fun y r=>∃a,y=V.ref a/\H a=some (.tup (r.map V.str))) vs rows
theorem e7.same (h:e7 H vs rows) (s:aB H H'):e7 H' vs rows:=Paired.imp' (fun _ _ ⟨a,e,q⟩=>⟨a,e,s _ _ q⟩) h
theorem e7.length (h:e7 H vs rows):vs.length=rows.length:=gZ h
theorem e7.get {H:Hp}:∀ {vs:List V}{rows:List (List Str)}{i:Nat}{v:V},e7 H vs rows->vs[i]? = some v -> ∃a r,v=V.ref a/\rows[i]? = some r/\H a=some (.tup (r.map V.str))
 |_,_,i,v,.nil,e=>by simp at e
 |_,_,0,v,.cons p _,e=>by
  obtain⟨a,rfl,q⟩:=p;simp at e;subst e;exact⟨a,_,rfl,rfl,q⟩
 |_,_,i+1,v,.cons _ t,e=>by
  obtain⟨a,r,e1,e2,q⟩:=e7.get (i:=i) t (by simpa using e)
  exact⟨a,r,e1,by simpa using e2,q⟩
theorem e7.append {H:Hp}{vs:List V}{rows:List (List Str)}{a:Addr}{r:List Str}:e7 H vs rows->H a=some (.tup (r.map V.str))->e7 H (vs ++ [.ref a]) (rows ++ [r])
 |.nil,q=>.cons ⟨a,rfl,q⟩ .nil
 |.cons p t,q=>.cons p (e7.append t q)
end L2
namespace gu
open PySem L2 PySem.W
def top (i:Nat):Stmt:=PySem.Challenge.pw_parentlines_k46_whole_onward_meets_each.main.body.getD i (.Pass ⟨0,0,0,0⟩)
abbrev qU:Stmt:=inClass (top 7) 0
abbrev vV:Stmt:=top 10
abbrev ED:Stmt:=top 11
abbrev DI:Stmt:=top 13
abbrev Eb:Stmt:=top 14
abbrev vW:Stmt:=top 16
abbrev Af:Stmt:=top 17
abbrev wL:Stmt:=top 18
abbrev t8:Stmt:=top 21
abbrev vH:Stmt:=top 22
abbrev Ec:Stmt:=top 24
abbrev DV:Stmt:=top 25
abbrev EF:Stmt:=top 26
abbrev vO:Stmt:=top 27
abbrev E4:Stmt:=top 28
abbrev vP:Stmt:=top 30
abbrev EG:Stmt:=top 31
abbrev vQ:Stmt:=top 32
abbrev tI:Stmt:=top 34
abbrev DE:Stmt:=top 35
abbrev Ed:Stmt:=top 36
abbrev rj:Stmt:=top 37
abbrev Fs:Stmt:=top 38
abbrev Gd:Stmt:=top 41
abbrev wj:Stmt:=top 42
abbrev nP:Stmt:=top 43
abbrev mh:Stmt:=top 44
abbrev wk:Stmt:=top 45
abbrev DW:Stmt:=top 46
abbrev vR:Stmt:=top 47
abbrev Ft:Stmt:=top 50
abbrev EH:Stmt:=top 51
abbrev Fu:Stmt:=top 52
abbrev Ge:Stmt:=top 53
abbrev n9:Stmt:=top 54
abbrev uk:Stmt:=inClass E4 0
abbrev um:Stmt:=inClass E4 1
abbrev uo:Stmt:=inClass E4 2
abbrev t9:Stmt:=inClass rj 0
abbrev tG:Stmt:=inClass rj 1
abbrev uq:Stmt:=inClass rj 2
abbrev pG:Stmt:=inClass rj 4
abbrev ur:Stmt:=inClass rj 5
abbrev tW:Stmt:=inClass rj 6
abbrev pw:Stmt:=inClass rj 7
abbrev uc:Stmt:=inClass Fs 0
abbrev tX:Stmt:=inClass Fs 1
abbrev tY:Stmt:=inClass Fs 2
structure gV (mg:Str->Option Value):Prop where
 len:mg "len" = none
 max:mg "max" = none
 min:mg "min" = none
 abs:mg "abs" = none
 range:mg "range" = none
 any:mg "any" = none
 all:mg "all" = none
 list:mg "list" = none
 tuple:mg "tuple" = none
 enu:mg "enumerate" = none
theorem qh {y:Str}:cZ ((y::r).map V.str) 0=some (V.str y):=(show cZ ((y::r).map V.str) ((0:Nat):Int)=some (V.str y) from gg rfl)
theorem ar {o:HO} (hq:H q=none):aB H (upd H q o):=fun b u e=>by rw[ag (aq e hq)];exact e
theorem Zf {g:TG}{D:Ends} (Pv:Nat->St->Hp->Prop) (h0:Pv 0 σ H) (hl:∀i σ H,i<=xs.length->Pv i σ H->ak K H a xs)
  (hs:∀i x σ H t,xs[i]? = some x->Pv i σ H->H t=none->g (.ref t) σ (upd H t (.tup [.int i,x])) fun ib H2=>tb { D with nx:=Pv (i+1),ct:=Pv (i+1),bk:=D.nx } ib H2) (hd:∀σ H,Pv xs.length σ H->D.nx σ H) :
  ∃W:Nat->Nat->St->Hp->Prop,(∃m,W 0 m σ H) /\ ∀i m σ H,W i m σ H ->
   ((xR K a).stop i H/\D.nx σ H)\/((xR K a).go i H /\ ∃N:St->Hp->Prop,(∀aK H',N aK H' -> ∃m',m' < m/\W (i+1) m' aK H') /\ ∀x H',(xR K a).pW i H x H'->g x σ H' fun ib H2=>tb { D with nx:=N,ct:=N,bk:=D.nx } ib H2):=by
 refine⟨fun i m σ H=>m=xs.length - i/\i<=xs.length/\Pv i σ H,⟨xs.length,by simp,bf _,h0⟩,?_⟩
 rintro i m σ H ⟨rfl,hi,p⟩;have q:=hl i σ H hi p
 by_cases aV:i < xs.length
 ·refine .inr ⟨⟨xs,xs[i],q,by simp[aV]⟩,Pv (i+1),fun aK H' p'=>⟨xs.length - (i+1),by omega,rfl,aV,p'⟩,fun x H' y=>?_⟩
  obtain⟨t,v,ht,rfl,hv,rfl⟩:=y;exact hs i v σ _ t (hv xs q) p ht
 ·have e:i=xs.length:=by omega
  subst e;exact .inl ⟨⟨xs,q,aP _⟩,hd σ H p⟩
inductive Ag (vs:List V) (H:Hp) (Q:VK) (E:XK):Prop
 |mk {l:Addr}{ws:List V}{rows:List (List Str)}{n:Str} (_:vs = [.ref l,.str n]) (_:H l=some (.lst ws)) (_:e7 H ws rows) (_:(eZ 0 rows n=none -> ∀H',aB H H'->Q .aF H')) (_:(∀i x,eZ 0 rows n=some (i,x) -> ∀p H',H p=none->aB H H'->H' p=some (.tup [.int i,.str x,.str n])->Q (.ref p) H')):Ag vs H Q E
theorem E5:bF ["rest","name","at","row"] ["rest","name"] (aI wL):=bV (by decide +kernel)
theorem aao (F:aY K "wish_against" "wish_against" wL f fd) (B:gV mg):aS P w K mg base aO 1 f fd ["rest","name"] Ag:=by
 refine F.ok E5 (fun vs H Q E h=>?_) (fun aH A outer s H vs Q E hr h=>?_)
 ·obtain⟨rfl,_⟩:=h;rfl
 ·obtain @⟨l,ws,rows,n,rfl,hl,hR,qn,qs⟩:=h
  refine⟨_,aA (jR iR rfl (ZV rfl B.enu (ae (pv 0) ah)) (pD rfl (eY (bp (i:=2) E5.nd rfl (Or.inl rfl)) (eY (bp (i:=3) E5.nd rfl (Or.inl rfl)) lj)))
    (aG (cf (PW.pt (pw_and (bK tH (pv 1) (pv 3) rfl) (pw_and1 (bK nR (a6 cx (pv 3) ay (fun _ _=>rfl)) (pv 1) (bQ _)))))
     (aG (bz (bJ (ae (pv 2) (ae (a6 cx (pv 3) ay (fun _ _=>rfl)) (ae (pv 1) ah)))))) cO)))
   (aG (bz iy)),?_⟩
  refine⟨_,rfl,l,rfl,⟨_,ak.of hl⟩,Zf (xs:=ws) (fun i σ H1=>∃v2 v3:Option V,σ = [some (.ref l),some (.str n),v2,v3]/\aB H H1/\eZ i (rows.drop i) n=eZ 0 rows n) ⟨none,none,rfl,aB.refl _,by simp⟩ (fun i σ H1 _ ⟨_,_,_,z,_⟩=>ak.of (z _ _ hl)) ?_ ?_⟩
  ·rintro i x σ H1 t hx ⟨v2,v3,rfl,S1,hw⟩ ht
   obtain⟨a,r,rfl,ip,gW⟩:=hR.get hx;have S2:aB H (upd H1 t (.tup [.int i,.ref a])):=S1.trans (ar ht);have uW:=S2 _ _ gW;have Jr:rows.drop i=r::rows.drop (i+1):=by
    have hi:=(cu.mp ip);obtain⟨xX,rfl⟩:=hi;exact vp xX
   rw[Jr]at hw;refine⟨t,_,rfl,aE.of af,rfl,_,_,rfl,_,_,rfl,rfl,?_⟩;refine⟨_,rfl,_,rfl,a,_,rfl,.inr (aE.of uW),rfl,qP _,_,rfl,?_⟩;rw[aj cw,qR];refine c7 (fun j9=>?_) (fun j9=>?_)
   ·have Qm:n∈r:=by simpa using j9
    cases r with
    |nil=>simp at Qm
    |cons y r =>
     refine⟨_,rfl,a,_,0,.str y,rfl,rfl,aE.of uW,qh,_,rfl,rfl,_,rfl,?_⟩;refine c7 (fun bY=>?_) (fun bY=>?_)
     ·have rJ:y≠n:=fun z=>by subst z;simp at bY
      refine⟨_,rfl,_,rfl,a,_,0,.str y,rfl,rfl,aE.of uW,qh,_,rfl,kQ,fun p hp=>?_⟩;rw[WD ⟨Qm,rJ⟩]at hw;exact qs i y hw.symm p _ (S2.free hp) (S2.trans (ar hp)) af
     ·have hy:y=n:=by
       by_cases z:y=n
       ·exact z
       ·exact absurd (by simp[z]) bY
      refine⟨_,_,rfl,S2,?_⟩;rw[<-hw,LA fun z=>z.2 (by rw[hy];rfl)]
   ·refine⟨_,_,rfl,S2,?_⟩
    rw[<-hw,LA fun z=>j9 (by simpa using z.1)]
  ·rintro σ H1 ⟨v2,v3,rfl,S1,hw⟩
   rw[hR.length,VX]at hw;exact qn hw.symm H1 S1
def Qn:Option Str->V
 |none=>.aF
 |some n=>.str n
inductive zW (vs:List V) (H:Hp) (Q:VK) (E:XK):Prop
 |mk {l:Addr}{ws:List V}{rows:List (List Str)} (_:vs = [.ref l]) (_:H l=some (.lst ws)) (_:e7 H ws rows) (_:∀H',aB H H'->Q (Qn (iu rows)) H'):zW vs H Q E
theorem Od:bF ["rest","row"] ["rest"] (aI Af):=bV (by decide +kernel)
theorem Zg {fW:Addr}{uX:FuncData} (F:aY K "least_free" "least_free" Af f fd) (B:gV mg) (FW:aY K "wish_against" "wish_against" wL fW uX) (bW:Binds K uX ["rest","name"] []) (mW:mg "wish_against" = some (.ref fW)) :
  aS P w K mg base aO 2 f fd ["rest"] zW:=by
 have GW:aS P w K mg base aO 1 fW uX ["rest","name"] Ag:=aao FW B;refine F.ok Od (fun vs H Q E h=>?_) (fun aH A outer s H vs Q E hr h=>?_)
 ·obtain⟨rfl,_⟩:=h;rfl
 ·obtain @⟨l,ws,rows,rfl,hl,hR,q⟩:=h
  have bZ:bb 1 _:=hr;refine⟨_,aA (jR iR rfl (gB (pv 0)) (bp (i:=1) Od.nd rfl (Or.inl rfl))
    (aG (cf (PW.pt (pw_and (qQ (pv 1) (fun _=>rfl)) (pw_and1 (bK pE (iT GW bZ rfl mW FW.kp bW .nil eF (ae (pv 0) (ae (a6 cx (pv 1) ay (fun _ _=>rfl)) ah))) iy (bQ _)))))
     (aG (bz (a6 cx (pv 1) ay (fun _ _=>rfl)))) cO)))
   (aG (bz iy)),?_⟩
  refine⟨_,rfl,l,rfl,⟨_,ak.of hl⟩,tL (xs:=ws) (fun i σ H1=>∃v1:Option V,σ = [some (.ref l),v1]/\aB H H1/\lg rows (rows.drop i)=iu rows) ⟨none,rfl,aB.refl _,by simp[iu]⟩ (fun i σ H1 _ ⟨_,_,z,_⟩=>ak.of (z _ _ hl)) ?_ ?_⟩
  ·rintro i x σ H1 hx ⟨v1,rfl,S1,hw⟩
   obtain⟨a,r,rfl,ip,gW⟩:=hR.get hx;have jc:=S1 _ _ gW;have Jr:rows.drop i=r::rows.drop (i+1):=by
    obtain⟨xX,rfl⟩:=cu.mp ip;exact vp xX
   rw[Jr]at hw;refine⟨_,rfl,!(r.map V.str).isEmpty,.inr (.inl ⟨_,aE.of jc,rfl⟩),?_⟩;cases r with
   |nil=>exact⟨_,rfl,S1,hw⟩
   |cons y r =>
    have hw:(if (eZ 0 rows y).isNone then some y else lg rows (rows.drop (i+1)))=iu rows:=hw;refine⟨_,rfl,_,rfl,a,_,0,.str y,rfl,rfl,aE.of jc,qh,?_⟩;refine Ag.mk rfl (S1 _ _ hl) (hR.same S1) (fun en H2 S2=>?_) (fun j z es p H2 hp S2 h2=>?_)
    ·refine⟨rfl,_,rfl,?_⟩
     refine⟨_,rfl,a,_,0,.str y,rfl,rfl,aE.of (S2 _ _ jc),qh,?_⟩;rw[en]at hw;have e:iu rows=some y:=hw.symm;have:=q H2 (S1.trans S2);rw[e]at this;exact this
    ·refine⟨rfl,_,rfl,?_⟩
     rw[es]at hw;exact⟨_,rfl,S1.trans S2,hw⟩
  ·rintro σ H1 ⟨v1,rfl,S1,hw⟩
   rw[hR.length,VX]at hw;have e:iu rows=none:=hw.symm;have:=q H1 S1;rw[e]at this;exact this
def zX (s:Stmt):List Stmt:=match s with|.For _ _ b _ _=>b|_=>[]
def vI (s:Stmt):List Stmt:=match s with|.While _ b _ _=>b|_=>[]
def cG (l:List Stmt) (i:Nat):Stmt:=l.getD i (.Pass ⟨0,0,0,0⟩)
def iX (s:Stmt):Expr:=match s with|.Assign _ v _=>v|_=>.Constant .none 0 ⟨0,0,0,0⟩
def AW (s:Stmt):Expr:=match s with|.Return (some v) _=>v|_=>.Constant .none 0 ⟨0,0,0,0⟩
def kG (e:Expr):Expr:=match e with|.Call _ (a::_) _ _=>a|_=>.Constant .none 0 ⟨0,0,0,0⟩
def adP (e:Expr):Expr:=match e with|.Subscript a _ _=>a|_=>.Constant .none 0 ⟨0,0,0,0⟩
def O6 (e:Expr):Expr:=match e with|.ListComp x _ _ _=>x|_=>.Constant .none 0 ⟨0,0,0,0⟩
def eg (e:Expr):Scope:=match e with|.ListComp _ _ sc _=>sc|_=>{ kind:= .function,names:= [],isGenerator:=false,isCoroutine:=false }
theorem boot_tuple:bootBuiltins "tuple" = some (.type "tuple"):=by decide +kernel
theorem boot_list:bootBuiltins "list" = some (.type "list"):=by decide +kernel
structure Small (rows:List (List Str)):Prop where
 aX:rows.length<=10
 short:∀r∈rows,r.length<=20
 nm:∀r∈rows,∀n∈r,Nm n
theorem abm {hs:List Str} (nd:ps.Nodup) (h:∀n∈ps,n∈hs):ps.length<=hs.length:=by
 by_cases z:ps.length<=hs.length
 ·exact z
 ·obtain⟨y,hy,hn⟩:=EX (found:=hs) nd (by omega)
  exact absurd (h y hy) hn
theorem L4 (h:total rest=0):(rest.any fun r=>!r.isEmpty)=false:=by
 cases e:rest.any fun r=>!r.isEmpty with
 |false=>rfl
 |true=>have:=DU e;omega
theorem tJ {n:Str} (h:iu rest=some n):∃r∈rest,n∈r:=by
 obtain⟨r,hr,e⟩:=Dy h;exact⟨r,hr,List.mem_of_head? e⟩
theorem L5:∀ (k:Nat) (r:List (List Str)),total r<=k -> ∀j,total r<=j->cT k r=cT j r
 |0,r,h,j,_=>by
  have z:=L4 (show total r=0 by omega)
  cases j with
  |zero=>rfl
  |succ j=>unfold cT;rw[aj (by rw[z];exact cw)]
 |k+1,r,h,0,hj=>by
  have z:=L4 (show total r=0 by omega)
  unfold cT;rw[aj (by rw[z];exact cw)]
 |k+1,r,h,j+1,hj=>by
  unfold cT;split
  ·cases e:iu r with
   |none=>rfl
   |some n =>
    have:=sV (tJ e);show Option.map _ _=Option.map _ _;rw[L5 k (without n r) (by omega) j (by omega)]
  ·rfl
theorem DJ {r:List (List Str)} (h:(r.any fun r=>!r.isEmpty)=false):cT (total r) r=some []:=by
 cases total r with
 |zero=>rfl
 |succ k=>unfold cT;rw[aj (by rw[h];exact cw)]
theorem DK {r:List (List Str)} (h:(r.any fun r=>!r.isEmpty)=true) (e:iu r=none):cT (total r) r=none:=by
 have:=DU h;cases q:total r with
 |zero=>omega
 |succ k=>unfold cT;rw[ax h,e]
theorem DL {r:List (List Str)}{n:Str} (h:(r.any fun r=>!r.isEmpty)=true) (e:iu r=some n):cT (total r) r=(cT (total (without n r)) (without n r)).map (n :: ·):=by
 have:=sV (tJ e);cases q:total r with
 |zero=>omega
 |succ k =>
  show(if (r.any fun r=>!r.isEmpty)=true then _ else _)=_;rw[ax h,e];show Option.map _ _=_;rw[L5 k (without n r) (by omega) _ (aP _)]
theorem LF {env:Env}:∀ {names:List (Str×NameKind)}{x:Str},names.lookup x=some .cell ->
  (names.map fun(n,k)=>if (k==NameKind.free && env.scope.kind == .function && env.kindOf n==some .cell) then (n,NameKind.cell) else (n,k)).lookup x=some .cell
 |[],_,h=>by simp at h
 |(n,k0)::r,x,h=>by
  have ih:=@LF env r x;show List.lookup x ((if (k0==NameKind.free && env.scope.kind == .function && env.kindOf n==some .cell)=true then (n,NameKind.cell) else (n,k0))::_)=_;rw[gE]at h;cases hx:x==n with
  |true =>
   rw[hx]at h;cases h
   rw[aj (by simp),gE,hx]
  |false =>
   rw[hx]at h
   by_cases hc:(k0==NameKind.free && env.scope.kind == .function && env.kindOf n==some .cell)=true
   ·rw[ax hc,gE,hx];exact ih h
   ·rw[aj hc,gE,hx];exact ih h
theorem nest {uY:Scope} (kind:sc.kind = .function) (keys:(sc.names.map (·.1)).Nodup) (nd:N'.Nodup) (len:b5.length=N'.length) (fv:FZ N N' b5 sc=true)
  (free:∀p∈sc.names,p.2 = .free->uY.names.lookup p.1=some .cell\/uY.names.lookup p.1=some .free):cK N (relabel uY env) N' b5 sc:=
 ⟨kind,keys,nd,len,OY fv,fun p hp e=>by
  rcases free p hp e with z|z
  ·exact .inl (LF z)
  ·exact Du z⟩
theorem LG (K:Frag) (h:X.K=K):eu X (.type "tuple") (fun xs H Q=>∃p ys,xs = [.ref p]/\((ak K H p ys /\ ∀l,H l=none->Q (.ref l) (upd H l (.tup ys)))\/(aE K H p ys/\Q (.ref p) H))):=by subst h;exact sX
theorem boot_any:bootBuiltins "any" = some (.builtin "any"):=by decide +kernel
def E6 (K:Frag) (C:Addr):Bool:=
 findIn K (.ref C) "__getattribute__" == some (some (.builtin "BaseException.__getattribute__")) && (findIn K (.ref C) "__getattr__" == some none && (findIn K (.ref C) "__setattr__" == some (some (.builtin "object.__setattr__")) && (hasDictIn K C &&
 (((clsIn K C).any fun cd=>uh cd.mro) && (mroIn K C (.type "BaseException")==some true && (mroIn K C (.type "ValueError")==some true && (mroIn K C (.type "object")==some true && (findIn K (.ref C) "__class__" == some (some (.builtin "object.__class__")) &&
 (specialIn K (.builtin "object.__class__") "__get__" == some (some (.builtin "getset_descriptor.__get__")) && takesIn K (.builtin "object.__class__")==some true)))))))))
theorem aap (h:E6 K C=true):gP K C:=by
 unfold E6 at h;simp only[nE,eV]at h;obtain⟨a,b,c,d,e,f,g,i,j,k,l⟩:=h;exact⟨a,b,c,d,e,f,g,i,j,k,l⟩
def Qo (a:Addr) (H H':Hp):Prop:= ∀b o,H b=some o->b≠a->H' b=some o
theorem Zh {fs:List (Str×V)} (hd:H d=none):Qo a H (upd (upd H d (iD d fs)) a (cY C (some d) a)):=fun b o e n=>by
 rw[ag n,ag (aq e hd)];exact e
abbrev Oe:List Str:= ["rows","order","rest","name"]
theorem vS:bF Oe ["rows"] (aI vW):=bV (by decide +kernel)
abbrev Qp:Expr:=iX (cG (vI (cG (bH vW) 2)) 3)
abbrev uY:Scope:=eg Qp
abbrev scI:Scope:=eg (kG (O6 Qp))
theorem Sn:cK Oe (aI vW) ["row","name"] [none,some 3] uY:=gi (by decide +kernel)
theorem csI:cK ["row","name"] (relabel uY env) ["other","name"] [none,some 1] scI:=nest rfl (by decide +kernel) (by decide +kernel) rfl (by decide +kernel) (by decide +kernel)
theorem ndI:(["other","name"]:List Str).Nodup:=by decide +kernel
theorem MO (h:e7 H vs rows) (s:∀b xs,H b=some (.tup xs)->H' b=some (.tup xs)):e7 H' vs rows:=Paired.imp' (fun _ _ ⟨a,e,q⟩=>⟨a,e,s _ _ q⟩) h
theorem LB {n:Str} (S:Small rest):Small (without n rest):=by
 refine⟨by unfold L2.without;rw[aJ];exact S.aX,fun r hr=>?_,fun r hr y hy=>?_⟩
 ·obtain⟨q,hq,rfl⟩:=br.mp hr
  exact fw (nJ _ _) (S.short q hq)
 ·obtain⟨q,hq,rfl⟩:=br.mp hr
  exact S.nm q hq y (kz.mp hy).1
structure Qq (H:Hp) (rows:List (List Str)) (t oa:Addr) (m:Nat) (σ:St) (H1:Hp) (rest:List (List Str)) (ws:List V) (acc:List Str) (rl:Addr):Prop where
 st:∃v3:Option V,σ = [some (.ref t),some (.ref oa),some (.ref rl),v3]
 mm:m=total rest
 oK:H1 oa=some (.lst (acc.map V.str))
 lQ:H1 rl=some (.lst ws)
 rr:e7 H1 ws rest
 sm:Small rest
 ne:rl≠oa
 same:aB H H1
 lim:acc.length+total rest<=1000
 eq:cT (total rows) rows=(cT (total rest) rest).map (acc ++ ·)
theorem zu:∀ {rows:List (List Str)},(∀r∈rows,r.length<=20)->total rows<=20 * rows.length
 |[],_=>bf _
 |r::rows,h=>by
  have h1:=zu fun q hq=>h q (bq _ hq);have h2:=h r aW;have e:total (r::rows)=r.length+total rows:=by simp[total]
  rw[e,d7];omega
theorem Zi (h:e7 H ws rows):Paired (fun y r=>∃a,y=V.ref a/\aE K H a r) ws (rows.map fun r=>r.map V.str):=by
 induction h with
 |nil=>exact .nil
 |cons p _ ih=>obtain⟨a,e,q⟩:=p;exact .cons ⟨a,e,aE.of q⟩ ih
theorem any_map (rows:List (List Str)):((rows.map fun r=>r.map V.str).any fun r=>!r.isEmpty)=rows.any fun r=>!r.isEmpty:=by
 rw[La];congr 1;funext r;cases r <;> rfl
inductive zN (vs:List V) (H:Hp) (Q:VK) (E:XK):Prop
 |mk {t:Addr}{ws:List V}{rows:List (List Str)}{o:List Str} (_:vs = [.ref t]) (_:H t=some (.tup ws)) (_:e7 H ws rows) (_:Small rows) (_:cT (total rows) rows=some o) (_:∀p H',H p=none->aB H H'->H' p=some (.tup (o.map V.str))->Q (.ref p) H'):zN vs H Q E
theorem Yl {fW:Addr}{Js uX:FuncData} (F:aY K "merged" "merged" vW f fd) (Bl:gV mg)
  (FW:aY K "wish_against" "wish_against" wL fW uX) (bW:Binds K uX ["rest","name"] []) (mW:mg "wish_against" = some (.ref fW))
  (FL:aY K "least_free" "least_free" Af fL Js) (bL:Binds K Js ["rest"] []) (mL:mg "least_free" = some (.ref fL)) :
  aS P w K mg base aO 3 f fd ["rows"] zN:=by
 have GL:aS P w K mg base aO 2 fL Js ["rest"] zW:=Zg FL Bl FW bW mW;refine F.ok vS (fun vs H Q E h=>?_) (fun aH A outer s H vs Q E hr h=>?_)
 ·obtain⟨rfl,_⟩:=h;rfl
 ·obtain @⟨t,ws,rows,o,rfl,ht,hR,hS,hm,qs⟩:=h
  have d6:bb 2 _:=hr;refine⟨_,aA (ba (i:=1) vS.nd rfl (Or.inl rfl) (dQ ah))
   (aA (ba (i:=2) vS.nd rfl (Or.inl rfl) (gF tw rfl Bl.list boot_list (ae (pv 0) ah)))
   (aA (vK iR (qQ (fZ (XZ rfl) rfl Bl.any boot_any (ae (pv 2) ah)) (fun _=>rfl))
    (aA (ba (i:=3) vS.nd rfl (Or.inr rfl) (iT GL d6 rfl mL FL.kp bL .nil eF (ae (pv 2) ah)))
    (aA (cf (bK pE (pv 3) iy (bQ _)) (aG Yz) cO)
    (aA (gG (jq k9 vx vy o8 (pv 1) (ae (pv 3) ah)))
    (aG (tF (i:=2) rfl Sn vS.nd rfl rfl (gB (pv 2)) (fun s H fp=>⟨bp (i:=0) Sn.nd rfl (Or.inl rfl),hJ,
     gF (LG K rfl) rfl Bl.tuple boot_tuple (ae (gM rfl csI (Na K rfl (pv 0)) (fun s H fp=>⟨bp (i:=0) ndI rfl (Or.inl rfl),pj (bK nR (pv 0) (pv 1) rfl),pv 0⟩)) ah)⟩)))))))
   (aG (bz (gF sX rfl Bl.tuple boot_tuple (ae (pv 1) ah)))))),?_⟩
  refine⟨bf _,fun oa oK=>⟨_,rfl,t,ws,rfl,.inr (aE.of (by rw[ag (aq ht oK)];exact ht)),fun rl lQ=>?_⟩⟩
  have adQ:(upd (upd H oa (.lst [])) rl (.lst ws)) oa=some (.lst []):=by rw[ag (aq af lQ)];exact af
  have S1:aB H (upd (upd H oa (.lst [])) rl (.lst ws)):=(ar oK).trans (ar lQ);refine⟨fun m σ H1=>∃rest oM acc rl,Qq H rows t oa m σ H1 rest oM acc rl,⟨_,rows,ws,[],rl,⟨none,rfl⟩,rfl,adQ,af,hR.same S1,hS,aN (aq af lQ),S1,by have:=zu hS.short;have:=hS.aX;simp only[sS];omega,by cases cT (total rows) rows <;> rfl⟩,?_⟩
  rintro m σ H1 ⟨rest,oM,acc,rl,R⟩;obtain⟨v3,rfl⟩:=R.st;refine⟨_,rfl,rl,oM,_,rfl,ak.of R.lQ,Zi R.rr,_,rfl,?_⟩;rw[any_map];refine c7 (fun hA=>?_) (fun hA=>?_)
  ·refine⟨fun aK H'=>∃m',m' < m /\ ∃rest oM acc rl,Qq H rows t oa m' aK H' rest oM acc rl,fun _ _ z=>z,?_⟩
   refine⟨_,rfl,zW.mk rfl R.lQ R.rr fun H2 S2=>?_⟩;have Qr:=DU hA;cases e:iu rest with
   |none =>
    refine⟨_,rfl,rfl,_,rfl,?_⟩;rw[R.eq,DK hA e]at hm;cases hm
   |some n =>
    refine⟨_,rfl,rfl,_,rfl,?_⟩;have Gf:H2 oa=some (.lst (acc.map V.str)):=S2 _ _ R.oK;refine⟨_,rfl,.inl ⟨rfl,_,ak.of Gf⟩,_,rfl,oa,_,_,rfl,rfl,Gf,by have:=R.lim;rw[aJ,aT];omega,?_⟩
    generalize Cf:upd H2 oa (.lst (acc.map V.str ++ [Qn (some n)]))=H3;have S3:aB H H3:=fun b o eb=>by rw[<-Cf,ag (aq eb oK)];exact S2 _ _ (R.same b o eb)
    have nro:rl≠oa:=R.ne;have Qs:H3 rl=some (.lst oM):=by rw[<-Cf,ag nro];exact S2 _ _ R.lQ
    have So:e7 H3 oM rest:=MO R.rr fun b xs hb=>by rw[<-Cf,ag (ao (S2 _ _ hb) Gf (by intro z;cases z))];exact S2 _ _ hb
    have Qt:H3 oa=some (.lst ((acc ++ [n]).map V.str)):=by rw[<-Cf,af,bB];rfl
    refine⟨_,rfl,rl,rfl,⟨_,ak.of Qs⟩,fun a1 jc=>?_⟩;have n1o:a1≠oa:=fun z=>by rw[z,Qt]at jc;cases jc
    refine iS (xs:=oM) (fun i ys τ H4=>∃t0:Option V,τ = [t0,some (.str n)]/\H4 a1=some (.lst ys)/\aB H3 H4/\e7 H4 ys (L2.without n (rest.take i))) ⟨none,rfl,af,ar jc,.nil⟩ (fun i ys τ H4 ⟨_,_,h1,h2,_⟩=>⟨h1,ak.of (h2 _ _ Qs)⟩) ?_ ?_
    ·rintro i x ys τ H4 hx ⟨t0,rfl,uZ,S4,x8⟩
     obtain⟨a,r,rfl,ip,gW⟩:=So.get hx;have aV:i < oM.length:=(cu.mp hx).1;have tk:rest.take (i+1)=rest.take i ++ [r]:=by rw[eX,ip];rfl
     refine⟨_,rfl,a,rfl,⟨_,aE.of (S4 _ _ gW)⟩,fun b1 ik=>?_⟩;have Sq:(upd H4 b1 (.lst [])) a=some (.tup (r.map V.str)):=by rw[ag (aq (S4 _ _ gW) ik)];exact S4 _ _ gW
     have Jt:a≠b1:=aq (S4 _ _ gW) ik;refine vM (xs:=r.map V.str) (fun j zs gH H5=>∃t1:Option V,gH = [t1,some (.str n)]/\zs=((r.take j).filter fun y=>!decide (y=n)).map V.str/\H5=upd H4 b1 (.lst zs)) ⟨none,rfl,rfl,rfl⟩ (fun j zs gH H5 ⟨_,_,_,z⟩=>by rw[z];exact⟨af,aE.of (by rw[ag Jt];exact S4 _ _ gW)⟩) ?_ ?_
     ·rintro j x zs gH H5 di ⟨t1,rfl,rfl,rfl⟩
      have b6:j < (r.map V.str).length:=(cu.mp di).1;have mU:j < r.length:=by simpa using b6
      obtain rfl:V.str r[j]=x:=by simpa [mU] using di
      have j':r.take (j+1)=r.take j ++ [r[j]]:=by rw[eX,b4 mU];rfl
      refine⟨_,rfl,_,rfl,rfl,_,rfl,?_⟩;refine c7 (fun bY=>?_) (fun bY=>?_)
      ·have rJ:r[j]≠n:=fun z=>by rw[z]at bY;simp at bY
       refine⟨_,rfl,af,?_,cw_next b6 ⟨_,rfl,?_,by rw[iw]⟩⟩
       ·have h1:=nJ (fun y=>!decide (y=n)) (r.take j)
        have h2:(r.take j).length<=r.length:=by rw[eJ];omega
        have h3:=R.sm.short r (kX ip);rw[aJ,aT];omega
       ·rw[j',nK,bB,zo (by simpa using rJ)];rfl
      ·have hy:r[j]=n:=by
        by_cases z:r[j]=n
        ·exact z
        ·exact absurd (by simp[z]) bY
       refine cw_next b6 ⟨_,rfl,?_,rfl⟩;rw[j'];simp[hy]
     ·rintro zs gH H5 ⟨t1,rfl,rfl,rfl⟩
      rw[aJ,eK];refine⟨b1,_,rfl,.inl ⟨ak.of af,fun l hl=>?_⟩⟩;have n1b:a1≠b1:=aq uZ ik;have Sb:aB H4 (upd (upd H4 b1 (.lst ((r.filter fun y=>!decide (y=n)).map V.str))) l (.tup ((r.filter fun y=>!decide (y=n)).map V.str))):=(ar ik).trans (ar hl);have n1l:a1≠l:=aq (by rw[ag n1b];exact uZ) hl
      refine⟨Sb _ _ uZ,?_,cw_next aV ⟨_,rfl,af,fun b o hb=>?_,?_⟩⟩
      ·have h1:=x8.length
       have h2:(L2.without n (rest.take i)).length<=rest.length:=by unfold L2.without;rw[aJ,eJ];omega
       have h3:=R.sm.aX;rw[aT];omega
      ·rw[ag (aq hb jc)];exact Sb _ _ (S4 b o hb)
      ·have e1:L2.without n (rest.take (i+1))=L2.without n (rest.take i) ++ [r.filter fun y=>!decide (y=n)]:=by rw[tk];unfold L2.without;rw[bB];rfl
       rw[e1];refine e7.append (MO x8 fun b xs hb=>?_) ?_
       ·rw[ag (ao hb uZ (by intro z;cases z))];exact Sb _ _ hb
       ·rw[ag (aN n1l)];exact af
    ·rintro ys τ H4 ⟨t0,rfl,uZ,S4,x8⟩
     rw[So.length,eK]at x8;have lt:=sV (tJ e);refine⟨_,by rw[R.mm];exact lt,L2.without n rest,ys,acc ++ [n],a1,⟨_,rfl⟩,rfl,S4 _ _ Qt,uZ,x8,LB R.sm,n1o,S3.trans S4,?_,?_⟩
     ·have:=R.lim;rw[dz,sR];omega
     ·rw[R.eq,DL hA e,VY]
      congr 1
      funext z
      simp
  ·refine⟨_,rfl,oa,_,rfl,.inl ⟨ak.of R.oK,fun p hp=>?_⟩⟩
   rw[R.eq,DJ (by simpa using hA)]at hm
   have e:acc ++ []=o:=gA hm;rw[jM]at e;subst e;exact qs p _ (R.same.free hp) (R.same.trans (ar hp)) af
end gu
namespace gu
open PySem L2
theorem boot_max:bootBuiltins "max" = some (.builtin "max"):=by decide +kernel
theorem boot_abs:bootBuiltins "abs" = some (.builtin "abs"):=by decide +kernel
inductive AA (K:PySem.W.Frag) (vs:List V) (H:Hp) (Q:VK) (E:XK):Prop
 |mk {a:Addr}{ns:List Int}{k:Int} (_:vs = [.ref a,.int k]) (_:ak K H a (ns.map V.int)) (_:0<=k) (_:k<=100) (_:ns.length<=63) (_:∀ (p:Addr) (x y:Int),H p=none->0<=x->0<=y->y < 4294967296->Q (.ref p) (upd H p (.lst [.int x,.int y]))):AA K vs H Q E
theorem Fv:bF ["_law_script","_law_k","_law_cell"] ["_law_script","_law_k"] (aI Gd):=bV (by decide +kernel)
theorem aaq (h:i < ns.length):∃z,(ns.map V.int)[i]? = some (V.int z):=⟨ns[i],by rw[jk,b4 h];rfl⟩
theorem abn (F:aY K "_law_pot" "_law_pot" Gd f fd) (B:gV mg):aS P w K mg base aO 1 f fd ["_law_script","_law_k"] (AA K):=by
 refine F.ok Fv (fun vs H Q E h=>?_) (fun aH A outer s H vs Q E hr h=>?_)
 ·obtain⟨rfl,_⟩:=h;rfl
 ·obtain @⟨a,ns,k,rfl,hS,k0,k1,hl,q⟩:=h
  refine⟨_,aA (ba (i:=2) Fv.nd rfl (Or.inl rfl) ay)
   (aA (cf (bK abL (pv 1) (fZ tq (by rfl) B.len vz (ae (pv 0) ah)) (bQ _))
     (aG (ba (i:=2) Fv.nd rfl (Or.inl rfl) (a6 fJ (pv 0) (pv 1) (fun _ _=>rfl)))) cO)
   (aG (bz (dQ (ae (fZ (XM rfl) (by rfl) B.max boot_max (ae ay (ae (cH Oz (fZ M6 (by rfl) B.abs boot_abs (ae (pv 2) ah)) (cH aaT ay ay)) ah)))
    (ae (cH lr (cH lr (cH qZ (fZ M6 (by rfl) B.abs boot_abs (ae (pv 2) ah)) ay) (cH ET ay (pv 1))) ay) ah)))))),?_⟩
  refine⟨_,rfl,_,rfl,a,_,rfl,.inl hS,_,_,rfl,rfl,_,rfl,?_⟩;have aoy:∀c:Int,0<=(if c < 0 then -c else c):=fun c=>by split <;> omega
  have fin:∀c:Int,∀p,H p=none->Q (.ref p) (upd H p (.lst [.int (if (if c < 0 then -c else c) - 10 ^ (18:Int).toNat > 0 then (if c < 0 then -c else c) - 10 ^ (18:Int).toNat else 0),.int ((if c < 0 then -c else c) % 2147483587+101 * k+3)])):=fun c p hp=>by
   have h1:=Ls (if c < 0 then -c else c) (show(2147483587:Int)≠0 by decide)
   have h2:=Lu (if c < 0 then -c else c) (show(0:Int) < 2147483587 by decide)
   refine q p _ _ hp ?_ (by omega) (by omega)
   generalize (if c < 0 then -c else c) - 10 ^ (18:Int).toNat=d;split <;> omega
  have tail:∀c:Int,∃ (x:V),([some (.ref a),some (.int k),some (.int c)]:St)[2]? = some (some x):=fun c=>⟨_,rfl⟩;refine c7 (fun hk=>?_) (fun hk=>?_)
  ·have pY:k < ((ns.map V.int).length:Int):=iQ hk
   rw[aJ]at pY;obtain⟨z,hz⟩:=aaq (ns:=ns) (i:=k.toNat) (by omega)
   refine⟨_,rfl,_,rfl,a,_,_,_,rfl,rfl,hS,(by rw[show k=((k.toNat:Nat):Int) by omega];exact gg hz),?_⟩
   refine⟨_,rfl,z,rfl,_,_,rfl,rfl,⟨by decide,by decide,by decide⟩,_,_,rfl,rfl,_,_,rfl,?_⟩
   refine⟨_,rfl,z,rfl,_,_,rfl,rfl,(by show(0:Int) < 2147483587;decide),_,rfl,_,_,rfl,rfl,.inl ⟨by decide,by decide⟩,_,_,rfl,rfl,_,_,rfl,rfl,cJ,fun p hp=>fin z p hp⟩
  ·refine⟨_,rfl,0,rfl,_,_,rfl,rfl,⟨by decide,by decide,by decide⟩,_,_,rfl,rfl,_,_,rfl,?_⟩
   refine⟨_,rfl,0,rfl,_,_,rfl,rfl,(by show(0:Int) < 2147483587;decide),_,rfl,_,_,rfl,rfl,.inl ⟨by decide,by decide⟩,_,_,rfl,rfl,_,_,rfl,rfl,cJ,fun p hp=>fin 0 p hp⟩
inductive qW (vs:List V) (H:Hp) (Q:VK) (E:XK):Prop
 |mk {p:Addr}{m x y:Int} (_:vs = [.ref p,.int m]) (_:H p=some (.lst [.int x,.int y])) (_:0<=x) (_:0<=y) (_:y < 4294967296) (_:0 < m) (_:m < 4611686018427387904) (_:∀ (d x' y':Int),0<=d->d < m->0<=x'->0<=y'->y' < 4294967296->Q (.int d) (upd H p (.lst [.int x',.int y']))):qW vs H Q E
theorem Of:bF ["_law_pot_here","_law_many","_law_digit_here"] ["_law_pot_here","_law_many"] (aI wj):=bV (by decide +kernel)
theorem Ee (F:aY K "_law_digit" "_law_digit" wj f fd):aS P w K mg base aO 1 f fd ["_law_pot_here","_law_many"] qW:=by
 refine F.ok Of (fun vs H Q E h=>?_) (fun aH A outer s H vs Q E hr h=>?_)
 ·obtain⟨rfl,_⟩:=h;rfl
 ·obtain @⟨p,m,x,y,rfl,hp,x0,y0,y1,m0,m1,q⟩:=h
  refine⟨_,aA (cf (bK Ao (a6 fJ (pv 0) ay (fun _ _=>rfl)) ay (bQ _))
    (aA (ba (i:=2) Of.nd rfl (Or.inl rfl) (cH qZ (a6 fJ (pv 0) ay (fun _ _=>rfl)) (pv 1)))
    (aA (qY (cH YX (a6 fJ (pv 0) ay (fun _ _=>rfl)) (pv 1)) (Oy (pv 0) ay set_list))
    (aG (bz (pv 2))))) cO)
   (aA (qY (cH qZ (cH lr (cH ET (a6 fJ (pv 0) ay (fun _ _=>rfl)) ay) ay) ay) (Oy (pv 0) ay set_list))
   (aG (bz (cH qZ (cH NT (cH qZ (cH ET (a6 fJ (pv 0) ay (fun _ _=>rfl)) (a6 fJ (pv 0) ay (fun _ _=>rfl))) ay) ay) (pv 1))))),?_⟩
  have hl:ak K H p [.int x,.int y]:=ak.of hp;refine⟨_,rfl,p,_,0,_,rfl,rfl,hl,rfl,_,_,rfl,rfl,_,rfl,?_⟩;refine c7 (fun hx=>?_) (fun hx=>?_)
  ·refine⟨_,rfl,p,_,0,_,rfl,rfl,hl,rfl,_,rfl,_,_,rfl,rfl,m0,?_⟩
   refine⟨_,rfl,p,_,0,_,rfl,rfl,hl,rfl,_,rfl,_,_,rfl,rfl,⟨m0,by omega⟩,_,rfl,p,_,0,0,rfl,rfl,hp,rfl,?_⟩
   refine⟨_,rfl,?_⟩;exact q _ _ _ (Ls _ (by omega)) (Lu _ m0) (Int.ediv_nonneg x0 (by omega)) y0 y1
  ·refine⟨_,rfl,p,_,1,_,rfl,rfl,hl,rfl,_,_,rfl,rfl,.inr ⟨by decide,by decide⟩,_,_,rfl,rfl,_,_,rfl,rfl,(by show(0:Int) < 2147483647;decide),_,rfl,p,_,1,1,rfl,rfl,hp,rfl,?_⟩
   have h1:=Ls (y * 39373+20011) (show(2147483647:Int)≠0 by decide)
   have h2:=Lu (y * 39373+20011) (show(0:Int) < 2147483647 by decide)
   refine⟨_,rfl,p,_,1,_,rfl,rfl,ak.of af,rfl,_,rfl,p,_,1,_,rfl,rfl,ak.of af,rfl,_,_,rfl,rfl,.inl ⟨VZ (by decide) h1,VZ h2 (by decide)⟩,_,_,rfl,rfl,(by show(0:Int) < 2147483563;decide),_,_,rfl,rfl,⟨by decide,by decide⟩,_,rfl,_,_,rfl,rfl,m0,?_⟩
   exact q _ x _ (Ls _ (by omega)) (Lu _ m0) x0 h1 (by omega)
def iz (p:Addr) (H:Hp):Prop:= ∃x y:Int,H p=some (.lst [.int x,.int y])/\0<=x/\0<=y/\y < 4294967296
structure bU (p:Addr) (H H':Hp):Prop where
 ok:iz p H'
 kp:∀b o,H b=some o->b≠p->H' b=some o
section
variable{o:HO}
theorem bU.refl (h:iz p H):bU p H H:=⟨h,fun _ _ e _=>e⟩
theorem bU.trans (a:bU p H H1) (b:bU p H1 H2):bU p H H2:=⟨b.ok,fun c o e n=>b.kp c o (a.kp c o e n) n⟩
theorem iz.ne (h:iz p H) (hq:H q=none):p≠q:=let ⟨_,_,e,_⟩:=h;aq e hq
theorem bU.new (a:bU p H H1) (hq:H1 q=none):bU p H (upd H1 q o):=by
 refine⟨?_,fun b u e n=>?_⟩
 ·obtain⟨x,y,e,r⟩:=id a.ok
  exact⟨x,y,by rw[ag (a.ok.ne hq)];exact e,r⟩
 ·rw[ag (aq (a.kp b u e n) hq)];exact a.kp b u e n
theorem bU.free (a:bU p H H1) (hq:H1 q=none):H q=none:=by
 cases e:H q with
 |none=>rfl
 |some u =>
  by_cases h:q=p
  ·subst h;obtain⟨_,_,z,_⟩:=a.ok;rw[z]at hq;cases hq
  ·rw[a.kp q u e h]at hq;cases hq
theorem bU.write (a:bU p H H1) (hq:H q=none) (hp:p≠q):bU p H (upd H1 q o):=by
 refine⟨?_,fun b u e n=>?_⟩
 ·obtain⟨x,y,e,r⟩:=id a.ok
  exact⟨x,y,by rw[ag hp];exact e,r⟩
 ·rw[ag (aq e hq)];exact a.kp b u e n
theorem kC {Q:VK}{E:XK} (h:iz p H) (m0:0 < m) (m1:m < 4611686018427387904) (k:∀d H',0<=d->d < m->bU p H H'->Q (.int d) H'):qW [.ref p,.int m] H Q E:=by
 obtain⟨x,y,e,x0,y0,y1⟩:=h;exact⟨rfl,e,x0,y0,y1,m0,m1,fun d x' y' d0 d1 h1 h2 h3=>k d _ d0 d1 ⟨⟨x',y',af,h1,h2,h3⟩,fun b o z n=>by rw[ag n];exact z⟩⟩
end
theorem MP:∀cs:List Nat,((cs.map sign).map (·.length)).sum=cs.length
 |[]=>rfl
 |c::cs=>by
  have e:(sign c).length=1:=rfl;simp only[fX,Lr,MP cs,d7,e];omega
abbrev qX:Str:= "abcdefghijklmnopqrstuvwxyz"
theorem MQ {d:Int} (h0:0<=d) (h1:d < 26):∃c:Nat,cZ qX.cps.toList d=some c/\97<=c/\c<=122/\c=97+d.toNat:=by
 have all:∀i:Nat,i < 26->qX.cps.toList[i]? = some (97+i):=by decide +kernel
 refine⟨97+d.toNat,?_,by omega,by omega,rfl⟩
 rw[show d=((d.toNat:Nat):Int) by omega]
 exact gg (all d.toNat (by omega))
inductive tZ (vs:List V) (H:Hp) (Q:VK) (E:XK):Prop
 |mk {p:Addr}{m:Nat} (_:vs = [.ref p,.int m]) (_:iz p H) (_:m<=20) (_:∀ (l:Addr) (ys:List Str) (H':Hp),H l=none->ys.length=m->(∀y∈ys,Nm y)->ys.Nodup->bU p H H'->H' l=some (.lst (ys.map V.str))->Q (.ref l) H'):tZ vs H Q E
abbrev Ah:List Str:= ["_law_pot_here","_law_many","_law_letters","_law_found","_law_k","_law_size","_law_name","_law_some"]
theorem pz:bF Ah ["_law_pot_here","_law_many"] (aI nP):=bV (by decide +kernel)
def OL (s:Stmt):List Stmt:=match s with|.If _ b _ _=>b|_=>[]
abbrev adR:Scope:=eg (kG (iX (cG (zX (cG (bH nP) 2)) 1)))
abbrev adS:Scope:=eg (iX (cG (OL (cG (zX (cG (bH nP) 2)) 2)) 0))
abbrev adT:Scope:=eg (adP (iX (cG (OL (cG (zX (cG (bH nP) 2)) 2)) 1)))
theorem Ss:cK Ah (aI nP) ["_law_turn","_law_letters","_law_pot_here"] [none,some 2,some 0] adR:=gi (by decide +kernel)
theorem Su:cK Ah (aI nP) ["_law_turn","_law_letters","_law_name"] [none,some 2,some 6] adS:=gi (by decide +kernel)
theorem Sv:cK Ah (aI nP) ["_law_one","_law_found"] [none,some 3] adT:=gi (by decide +kernel)
theorem Zj {su:FuncData} (F:aY K "_law_names" "_law_names" nP f fd) (B:gV mg) (FD:aY K "_law_digit" "_law_digit" wj fD su) (bD:Binds K su ["_law_pot_here","_law_many"] []) (mD:mg "_law_digit" = some (.ref fD)) :
  aS P w K mg base aO 3 f fd ["_law_pot_here","_law_many"] tZ:=by
 have GD:aS P w K mg base aO 1 fD su ["_law_pot_here","_law_many"] qW:=Ee FD;refine F.ok pz (fun vs H Q E h=>?_) (fun aH A outer s H vs Q E hr h=>?_)
 ·obtain⟨rfl,_⟩:=h;rfl
 ·obtain @⟨p,m,rfl,hp,m1,q⟩:=h
  have bZ:bb 1 _:=hr.mono (by decide)
  refine⟨_,aA (ba (i:=2) pz.nd rfl (Or.inr rfl) b9)
   (aA (ba (i:=3) pz.nd rfl (Or.inr rfl) (dQ ah))
   (aA (jR iR rfl (qO rfl B.range (ae (pv 1) ah)) (bp (i:=4) pz.nd rfl (Or.inl rfl))
    (aA (ba (i:=5) pz.nd rfl (Or.inl rfl) (cH lr ay (iT GD bZ rfl mD FD.kp bD .nil eF (ae (pv 0) (ae (a6 fJ (dQ (ae ay (ae ay (ae ay ah))))
      (iT GD bZ rfl mD FD.kp bD .nil eF (ae (pv 0) (ae ay ah))) (fun _ _=>rfl)) ah)))))
    (aA (ba (i:=6) pz.nd rfl (Or.inr rfl) (jq PySem.F.plainAttrs_str PySem.F.slot_str_join PySem.F.type_str_join ZW b9
      (ae (gM rfl Ss (qO rfl B.range (ae (pv 5) ah)) (fun s H fp=>⟨bp (i:=0) Ss.nd rfl (Or.inl rfl),hJ,a6 OD (pv 1) (iT GD bZ rfl mD FD.kp bD .nil eF (ae (pv 2) (ae ay ah))) (fun _ _=>rfl)⟩)) ah)))
    (aA (cf (bK tH (pv 6) (pv 3) rfl)
      (aA (tF (i:=7) rfl Su pz.nd rfl rfl (qO rfl B.range (ae (cH lr (pv 1) ay) ah)) (fun s H fp=>⟨bp (i:=0) Su.nd rfl (Or.inl rfl),hJ,
        cH LP (cH LP (tM aba (pv 2) tT (tU ay)) (a6 OD (pv 1) (pv 0) (fun _ _=>rfl))) b9⟩))
      (aG (ba (i:=6) pz.nd rfl (Or.inr rfl) (a6 fJ (gM rfl Sv (gB (pv 7)) (fun s H fp=>⟨bp (i:=0) Sv.nd rfl (Or.inl rfl),pj (bK (Xi K rfl) (pv 0) (pv 1) rfl),pv 0⟩)) ay (fun _ _=>rfl)))))
      cO)
    (aG (gG (jq k9 vx vy o8 (pv 3) (ae (pv 6) ah))))))))
   (aG (bz (pv 3))))),?_⟩
  refine⟨bf _,fun l hl=>?_⟩;have cS:p≠l:=hp.ne hl;have em:((m:Int)).toNat=m:=oX m;refine⟨_,rfl,(m:Int),rfl,by omega,by omega,vE (fun i σ H1=>∃ (ys:List Str) (v4 v5 v6 v7:Option V),σ = [some (.ref p),some (.int m),some (.str qX),some (.ref l),v4,v5,v6,v7]/\ys.length=i/\(∀y∈ys,Nm y)/\ys.Nodup/\bU p H H1/\H1 l=some (.lst (ys.map V.str)))
   ⟨[],none,none,none,none,rfl,rfl,(fun y hy=>by simp at hy),jl,(bU.refl hp).new hl,af⟩ ?_ ?_⟩
  ·rintro i σ H1 hi ⟨ys,v4,v5,v6,v7,rfl,hlen,gX,gC,pa,mS⟩
   rw[em]at hi;refine⟨_,rfl,kQ,fun a hq=>⟨_,rfl,?_⟩⟩;have nqp:a≠p:=aN (pa.ok.ne hq);refine kC (p:=p) (m:=3) ((bU.refl pa.ok).new hq).ok (by decide) (by decide) fun d H2 d0 d1 pb=>?_
   obtain⟨mv,x9,mv0,mv1⟩:∃mv:Int,cZ [V.int 1,V.int 2,V.int 8] d=some (V.int mv)/\0 < mv/\mv<=8:=by
    have:d=0\/d=1\/d=2:=by omega
    rcases this with rfl|rfl|rfl
    ·exact⟨1,rfl,by decide,by decide⟩
    ·exact⟨2,rfl,by decide,by decide⟩
    ·exact⟨8,rfl,by decide,by decide⟩
   refine⟨a,_,d,_,rfl,rfl,ak.of (pb.kp a _ af nqp),x9,?_⟩;refine kC (p:=p) (m:=mv) pb.ok mv0 (by omega) fun e H3 e0 e1 pc=>⟨_,_,rfl,rfl,?_⟩
   have pd:bU p H1 H3:=(((bU.refl pa.ok).new hq).trans pb).trans pc;have lR:H3 l=some (.lst (ys.map V.str)):=pd.kp l _ mS (aN cS);refine⟨rfl,_,rfl,1+e,rfl,by omega,by omega,fun a1 jc=>?_⟩
   have B0:p≠a1:=pc.ok.ne jc;refine LV (fun i zs τ H4=>∃ (cs:List Nat) (t0:Option V),zs=(cs.map sign).map V.str/\cs.length=i/\(∀c∈cs,97<=c/\c<=122)/\τ = [t0,some (.str qX),some (.ref p)]/\bU p H3 H4/\H4 a1=some (.lst zs))
    ⟨[],none,rfl,rfl,(fun c hc=>by simp at hc),rfl,(bU.refl pc.ok).new jc,af⟩ (fun i zs τ H4 ⟨_,_,_,_,_,_,_,z⟩=>z) ?_ ?_
   ·rintro j zs τ H4 hj ⟨cs,t0,rfl,jz,Ju,rfl,pe,hz⟩
    refine⟨_,rfl,_,rfl,kC (p:=p) (m:=26) pe.ok (by decide) (by decide) fun d H5 d0 d1 pf=>?_⟩
    obtain⟨c,hc,c0,c1,_⟩:=MQ d0 d1;have hz5:H5 a1=_:=pf.kp a1 _ hz (aN B0);refine⟨qX,d,c,rfl,rfl,(by rw[aT];decide +kernel),hc,hz5,?_,cw_next hj ⟨cs ++ [c],_,?_,?_,?_,rfl,?_,af⟩⟩
    ·rw[aJ,aJ,jz,aT];omega
    ·rw[bB,bB];rfl
    ·rw[dz,jz];rfl
    ·intro x hx
     rcases ee.mp hx with h|h
     ·exact Ju x h
     ·have:x=c:=by simpa using h
      rw[this];exact⟨c0,c1⟩
    ·exact(pe.trans pf).write ((bU.refl pc.ok).free jc) B0
   ·rintro zs τ H4 ⟨cs,t0,rfl,jz,Ju,rfl,pe,hz⟩
    have hsl:((cs.map sign).map (·.length)).sum=cs.length:=by
     exact MP cs
    refine⟨("" : Str),a1,cs.map sign,rfl,rfl,.inl (ak.of hz),?_,?_⟩
    ·have:(Str.length ("" : Str))=0:=rfl
     rw[hsl,this,jz];omega
    rw[Xg];generalize Qu:(⟨cs.toArray⟩:Str)=nm;have Gg:Nm nm:=by
     have el:nm.length=cs.length:=by rw[<-Qu];show cs.toArray.size=_;simp
     refine⟨by omega,by omega,fun c hc=>Ju c ?_⟩
     rw[<-Qu]at hc;simpa using hc
    have pg:bU p H1 H4:=pd.trans pe;have jd:H4 l=some (.lst (ys.map V.str)):=pe.kp l _ lR (aN cS);refine⟨_,rfl,_,rfl,l,_,rfl,.inl (ak.of jd),rfl,qP _,_,rfl,?_⟩;rw[aj cw,qR];refine c7 (fun j9=>?_) (fun j9=>?_)
    ·
     refine⟨_,rfl,_,_,rfl,rfl,(m:Int)+1,rfl,by omega,by omega,fun a2 uW=>?_⟩
     refine LV (fun i zs τ H5=>∃t0:Option V,zs=((List.range i).map fun j=>Txt.slice nm none (some 6)++sign (97+j)++("q" : Str)).map V.str/\τ = [t0,some (.str qX),some (.str nm)]/\H5=upd H4 a2 (.lst zs))
      ⟨none,rfl,rfl,rfl⟩ (fun i zs τ H5 ⟨_,_,_,z⟩=>by rw[z];exact af) ?_ ?_
     ·rintro j zs τ H5 hj ⟨t0,rfl,rfl,rfl⟩
      have Jf:j < m+1:=by omega
      obtain⟨c,hc,c0,c1,Jv⟩:=MQ (d:=0+(j:Int)) (by omega) (by omega)
      have adU:c=97+j:=by rw[Jv];omega
      have l1:(Txt.slice nm none (some 6)).length<=6:=LX nm;refine⟨_,rfl,_,rfl,nm,rfl,by have:=Gg.hi;omega,_,rfl,_,rfl,qX,_,c,rfl,rfl,(by rw[aT];decide +kernel),hc,_,_,rfl,rfl,?_,_,_,rfl,rfl,?_,af,?_,cw_next hj ⟨_,?_,rfl,?_⟩⟩
      ·show _+1<=sizeLine;rw[aT];omega
      ·have e1:(Txt.slice nm none (some 6)++(⟨#[c]⟩:Str)).length=(Txt.slice nm none (some 6)).length+1:=by
        show(_ ++ #[c]:Array Nat).size=_;rw[Dg];rfl
       have e2:(("q" : Str)).length=1:=by decide +kernel
       show(Txt.slice nm none (some 6)++(⟨#[c]⟩:Str)).length+_<=sizeLine;rw[e1,e2,aT];omega
      ·rw[aJ,aJ,Vt,aT];omega
      ·rw[List.range_succ,bB,bB,adU];rfl
      ·rw[iw]
     ·rintro zs τ H5 ⟨t0,rfl,rfl,rfl⟩
      have em1:((m:Int)+1).toNat=m+1:=by omega
      generalize fg:(List.range ((m:Int)+1).toNat).map (fun j=>Txt.slice nm none (some 6)++sign (97+j)++("q" : Str))=cands;have Cg:cands.Nodup:=by
       rw[<-fg];refine List.Pairwise.map _ (fun a b Sq h=>Sq ?_) List.nodup_range;have:=YO h;omega
      have Ci:∀y∈cands,Nm y:=by
       intro y hy;rw[<-fg]at hy;obtain⟨j,hj,rfl⟩:=br.mp hy;have:=oT.mp hj;exact ZX Gg.az ⟨by omega,by omega⟩
      have aoz:cands.length=m+1:=by rw[<-fg,aJ,Vt,em1]
      have Cj:upd H4 a2 (.lst (cands.map V.str)) l=some (.lst (ys.map V.str)):=by rw[ag (aq jd uW)];exact jd
      refine⟨_,rfl,a2,rfl,⟨_,ak.of af⟩,fun a3 mV=>?_⟩;refine iS (xs:=cands.map V.str) (fun i zs τ H6=>∃t0:Option V,zs=((cands.take i).filter (fun y=>!decide (y∈ys))).map V.str/\τ = [t0,some (.ref l)]/\H6=upd (upd H4 a2 (.lst (cands.map V.str))) a3 (.lst zs))
       ⟨none,rfl,rfl,rfl⟩ (fun i zs τ H6 ⟨_,_,_,z⟩=>by rw[z];exact⟨af,ak.of (by rw[ag (aq af mV)];exact af)⟩) ?_ ?_
      ·rintro j x zs τ H6 hx ⟨t0,rfl,rfl,rfl⟩
       rw[jk]at hx;obtain⟨y,hy,rfl⟩:=kB.mp hx;have b6:j < (cands.map V.str).length:=by rw[aJ];exact(cu.mp hy).1
       have tk:cands.take (j+1)=cands.take j ++ [y]:=by rw[eX,hy];rfl
       have sy:(upd (upd H4 a2 (.lst (cands.map V.str))) a3 (.lst (((cands.take j).filter (fun y=>!decide (y∈ys))).map V.str))) l=some (.lst (ys.map V.str)):=by rw[ag (aq Cj mV)];exact Cj
       refine⟨_,rfl,_,rfl,l,_,rfl,.inl (ak.of sy),rfl,qP _,_,rfl,?_⟩;rw[ax rfl,qR];refine c7 (fun hn=>?_) (fun hn=>?_)
       ·refine⟨_,rfl,af,?_,cw_next b6 ⟨_,?_,rfl,?_⟩⟩
        ·have h1:=nJ (fun y=>!decide (y∈ys)) (cands.take j)
         have h2:(cands.take j).length<=cands.length:=by rw[eJ];omega
         rw[aJ,aT];omega
        ·rw[tk,nK,bB,Dm,ax hn];rfl
        ·rw[iw]
       ·refine cw_next b6 ⟨_,?_,rfl,rfl⟩
        rw[tk,nK,Dm,aj hn,List.filter_nil,jM]
      ·rintro zs τ H6 ⟨t0,rfl,rfl,rfl⟩
       rw[aJ,eK];obtain⟨y0,hy0,hyn⟩:=EX (found:=ys) Cg (by omega)
       have jv:y0∈cands.filter (fun y=>!decide (y∈ys)):=kz.mpr ⟨hy0,by simpa using hyn⟩
       cases hf:cands.filter (fun y=>!decide (y∈ys)) with
       |nil=>rw[hf]at jv;simp at jv
       |cons z1 zr =>
        have hz1:z1∈cands.filter (fun y=>!decide (y∈ys)):=by rw[hf];exact aW
        obtain⟨zc,zn⟩:=kz.mp hz1;have zn':z1 ∉ ys:=by simpa using zn
        have sy:(upd (upd H4 a2 (.lst (cands.map V.str))) a3 (.lst ((z1::zr).map V.str))) l=some (.lst (ys.map V.str)):=by rw[ag (aq Cj mV)];exact Cj
        have ph:bU p H (upd (upd H4 a2 (.lst (cands.map V.str))) a3 (.lst ((z1::zr).map V.str))):=((pa.trans pg).new uW).new mV;refine⟨a3,_,0,V.str z1,rfl,rfl,ak.of af,(show cZ ((z1::zr).map V.str) ((0:Nat):Int)=some (V.str z1) from gg rfl),?_⟩;refine⟨_,rfl,.inl ⟨rfl,_,ak.of sy⟩,_,rfl,l,_,_,rfl,rfl,sy,?_,?_⟩
        ·rw[aJ,aT];omega
        ·refine⟨ys ++ [z1],_,_,_,_,rfl,by rw[dz,hlen];rfl,?_,?_,?_,?_⟩
         ·intro y hy
          rcases ee.mp hy with h|h
          ·exact gX y h
          ·have:y=z1:=by simpa using h
           rw[this];exact Ci z1 zc
         ·rw[g9]
          exact⟨gC,by simp,fun a ha b hb=>by rw[show b=z1 by simpa using hb];exact fun h=>zn' (h ▸ ha)⟩
         ·exact ph.write hl cS
         ·rw[af,bB];rfl
    ·have pV:nm ∉ ys:=by simpa using j9
     have ph:bU p H H4:=pa.trans pg;refine⟨_,rfl,.inl ⟨rfl,_,ak.of jd⟩,_,rfl,l,_,_,rfl,rfl,jd,?_,?_⟩
     ·rw[aJ,aT];omega
     ·refine⟨ys ++ [nm],_,_,_,_,rfl,by rw[dz,hlen];rfl,?_,?_,?_,?_⟩
      ·intro y hy
       rcases ee.mp hy with h|h
       ·exact gX y h
       ·have:y=nm:=by simpa using h
        rw[this];exact Gg
      ·rw[g9]
       exact⟨gC,by simp,fun a ha b hb=>by rw[show b=nm by simpa using hb];exact fun h=>pV (h ▸ ha)⟩
      ·exact ph.write hl cS
      ·rw[af,bB];rfl
  ·rintro σ H1 ⟨ys,v4,v5,v6,v7,rfl,hlen,gX,gC,pa,mS⟩
   rw[em]at hlen;exact⟨_,rfl,q l ys H1 hl hlen gX gC pa mS⟩
end gu
namespace gu
open PySem L2 PySem.W HT
theorem W0 (K:Frag) (h:X.K=K):eu X (.type "list") (fun xs H Q=>∃p ys,xs = [.ref p]/\(ak K H p ys\/aE K H p ys) /\ ∀l,H l=none->Q (.ref l) (upd H l (.lst ys))):=by subst h;exact tw
theorem W2 (K:Frag) (h:X.K=K) (hc:X.calm=true):eu X (.builtin "any") (fun xs H Q=>∃ (p:Addr) (bs:List Bool),xs = [.ref p]/\ak K H p (bs.map V.bl)/\Q (.bl (bs.any id)) H):=by subst h;exact Mx hc
theorem Ym (K:Frag) (h:X.K=K):uL X (PR K):=by subst h;exact Ew
def jr (av:Addr->Prop) (H:Hp) (vs:List V) (rows:List (List Str)):Prop:=Paired (fun y r=>∃a,y=V.ref a/\av a/\H a=some (.lst (r.map V.str))) vs rows
theorem tK {av:Addr->Prop}{H:Hp}:∀ {vs:List V}{rows:List (List Str)}{i:Nat}{v:V},jr av H vs rows->vs[i]? = some v -> ∃a r,v=V.ref a/\rows[i]? = some r/\av a/\H a=some (.lst (r.map V.str))
 |_,_,i,v,.nil,e=>by simp at e
 |_,_,0,v,.cons p _,e=>by
  obtain⟨a,rfl,n,q⟩:=p;simp at e;subst e;exact⟨a,_,rfl,rfl,n,q⟩
 |_,_,i+1,v,.cons _ t,e=>by
  obtain⟨a,r,e1,e2,n,q⟩:=tK (i:=i) t (by simpa using e)
  exact⟨a,r,e1,by simpa using e2,n,q⟩
theorem o6 {Sy:Addr->Prop} (h:jr av H vs rows) (f:∀a xs,av a->H a=some (.lst xs)->Sy a/\H' a=some (.lst xs)):jr Sy H' vs rows:=
 Paired.imp' (fun _ _ ⟨a,e,n,q⟩=>⟨a,e,(f a _ n q).1,(f a _ n q).2⟩) h
theorem DB (h:jr av H vs rows) (n:av a) (q:H a=some (.lst (r.map V.str))):jr av H (vs ++ [.ref a]) (rows ++ [r]):=qJ h ⟨a,rfl,n,q⟩
theorem qM (h:jr av H vs rows):vs.length=rows.length:=gZ h
theorem AB (h:Nm x):PyData.strOk x=true:=by
 unfold PyData.strOk;rw[<-Array.all_toList,zj];intro c hc;have:=(h.az c hc).2;exact fY (by omega)
theorem zO (H:Hp):∀xs:List Str,cP H (xs.map V.str) (xs.map PyData.str)
 |[]=>.nil
 |x::xs=>.cons (.str x) (zO H xs)
theorem zP:∀ {xs:List Str},(∀x∈xs,Nm x)->PyData.canLayAll0 (xs.map PyData.str)=true
 |[],_=>rfl
 |x::xs,h=>by
  show(PyData.strOk x && PyData.canLayAll0 (xs.map PyData.str))=true;rw[AB (h x aW),zP fun y hy=>h y (bq _ hy)];rfl
theorem DM:∀xs:List Str,PyData.depthAll (xs.map PyData.str)=0
 |[]=>rfl
 |x::xs=>by rw[fX];simp only[PyData.depthAll,PyData.depth,DM xs,Nat.max_self]
theorem ne_nil {xs:List Str}{Q:VK} (ha:H a=some (.lst (xs.map V.str))) (hb:H b=some (.lst [])) (hn:∀x∈xs,Nm x) (q:Q (.bl (!xs.isEmpty)) H):uw (.ref a) (.ref b) H Q:=by
 refine⟨.list (xs.map PyData.str),.list [],.lst ha (zO _ _),.lst hb .nil,zP hn,rfl,by show PyData.depthAll _+1<=60;rw[DM];decide,?_⟩
 cases xs with
 |nil=>exact q
 |cons x xs=>exact q
theorem eq_nil {xs:List Str}{Q:VK} (ha:H a=some (.lst (xs.map V.str))) (hb:H b=some (.lst [])) (hn:∀x∈xs,Nm x) (q:Q (.bl xs.isEmpty) H):AS (.ref a) (.ref b) H Q:=by
 refine⟨.list (xs.map PyData.str),.list [],.lst ha (zO _ _),.lst hb .nil,zP hn,rfl,by show PyData.depthAll _+1<=60;rw[DM];decide,?_⟩
 cases xs with
 |nil=>exact q
 |cons x xs=>exact q
theorem Ef (xs:List V) (k:Nat):jW xs (some (k:Int)) none=xs.drop k:=by
 unfold jW;rw[HT.YH,HT.ZK]
 by_cases h:k<=xs.length
 ·rw[Nat.min_eq_left h,Dk (by rw[vn];omega)]
 ·rw[Nat.min_eq_right (by omega),VX,anH (by omega)];simp
def busy (rest:List (List Str)) (x:Str):Bool:=rest.any fun o=>decide (x∈o.drop 1)
def dX (all:List (List Str)):List (List Str)->List Str
 |[]=>[]
 |[]::rest=>dX all rest
 |(x::_)::rest=>if busy all x then dX all rest else x::dX all rest
theorem zG {n:Str}:∀ {k:Nat}{rest:List (List Str)},eZ k rest n=none ↔ ∀r∈rest,n∈r->r.head? = some n
 |k,[]=>by simp[eZ]
 |k,[]::rest=>by
  show eZ (k+1) rest n=none ↔ _;rw[zG (k:=k+1) (rest:=rest)];simp
 |k,(x::r)::rest=>by
  show(if n∈x::r/\x≠n then some (k,x) else eZ (k+1) rest n)=none ↔ _
  by_cases h:n∈x::r/\x≠n
  ·rw[ax h]
   constructor
   ·intro z;cases z
   ·intro z
    have:=z _ aW h.1;exact absurd (by simpa using this) h.2
  ·rw[aj h,zG (k:=k+1) (rest:=rest)]
   constructor
   ·intro z q hq hn
    rcases bj.mp hq with rfl|hq
    ·by_cases e:x=n
     ·rw[e];rfl
     ·exact absurd ⟨hn,e⟩ h
    ·exact z q hq hn
   ·exact fun z q hq=>z q (bq _ hq)
theorem Nw {all:List (List Str)} (gC:∀r∈all,r.Nodup) (x:Str):busy all x=false ↔ eZ 0 all x=none:=by
 rw[zG];unfold busy;rw[KS]
 constructor
 ·intro h q hq hx
  have h1:=h q hq;cases q with
  |nil=>simp at hx
  |cons y t =>
   rcases bj.mp hx with rfl|hx
   ·rfl
   ·exact absurd (by simpa using hx) h1
 ·intro h r hr
  cases r with
  |nil=>simp
  |cons y t =>
   intro hx;have hx:x∈t:=by simpa using hx
   obtain rfl:y=x:=by simpa using h _ hr (bq _ hx)
   exact(g8.mp (gC _ hr)).1 hx
theorem DN {all:List (List Str)} (gC:∀r∈all,r.Nodup):∀rest:List (List Str),(dX all rest).head? = lg all rest
 |[]=>rfl
 |[]::rest=>DN gC rest
 |(x::t)::rest=>by
  show(if busy all x then dX all rest else x::dX all rest).head? = if (eZ 0 all x).isNone then some x else lg all rest;cases hb:busy all x with
  |false=>rw[(Nw gC x).mp hb];rfl
  |true =>
   have hn:(eZ 0 all x).isNone=false:=by
    cases z:eZ 0 all x with
    |none=>rw[(Nw gC x).mpr z]at hb;cases hb
    |some _=>rfl
   rw[hn];exact DN gC rest
theorem vD (all:List (List Str)) (r:List Str):∀rest:List (List Str),dX all (rest ++ [r])=dX all rest++dX all [r]
 |[]=>rfl
 |[]::rest=>vD all r rest
 |(x::t)::rest=>by
  show(if busy all x then dX all (rest ++ [r]) else x::dX all (rest ++ [r]))=(if busy all x then dX all rest else x::dX all rest)++dX all [r];rw[vD all r rest];split <;> rfl
theorem DX (all:List (List Str)):∀rest:List (List Str),(dX all rest).length<=rest.length
 |[]=>aP _
 |[]::rest=>Di (DX all rest)
 |(x::t)::rest=>by
  have:=DX all rest;show(if busy all x then dX all rest else x::dX all rest).length<=rest.length+1;split
  ·omega
  ·rw[d7];omega
theorem zH {all:List (List Str)}{n:Str}:∀ {rest:List (List Str)},n∈dX all rest -> ∃r∈rest,n∈r
 |[],h=>by simp[dX]at h
 |[]::rest,h=>let ⟨r,hr,e⟩:=zH (rest:=rest) h;⟨r,bq _ hr,e⟩
 |(x::t)::rest,h=>by
  have h:n∈(if busy all x then dX all rest else x::dX all rest):=h;split at h
  ·obtain⟨r,hr,e⟩:=zH (rest:=rest) h
   exact⟨r,bq _ hr,e⟩
  ·rcases bj.mp h with rfl|h
   ·exact⟨_,aW,aW⟩
   ·obtain⟨r,hr,e⟩:=zH (rest:=rest) h
    exact⟨r,bq _ hr,e⟩
theorem L6 {n:Str} (h:∀r∈rest,r.Nodup):∀r∈L2.without n rest,r.Nodup:=by
 intro r hr;obtain⟨q,hq,rfl⟩:=br.mp hr;exact(h q hq).filter _
structure Qv (H:Hp) (rows:List (List Str)) (l fa:Addr) (m:Nat) (σ:St) (H1:Hp) (rest:List (List Str)) (lv:List V) (acc:List Str) (la:Addr):Prop where
 st:∃v3:Option V,σ = [some (.ref l),some (.ref la),some (.ref fa),v3]
 mm:m=total rest
 gY:H1 la=some (.lst lv)
 rr:jr (fun a=>a≠fa) H1 lv rest
 ne:la≠fa
 kS:H1 fa=some (.lst (acc.map V.str))
 sm:Small rest
 nd:∀r∈rest,r.Nodup
 same:aB H H1
 lim:acc.length+total rest<=1000
 eq:cT (total rows) rows=(cT (total rest) rest).map (acc ++ ·)
abbrev ya:List Str:= ["_law_rows","_law_left","_law_found","_law_free"]
theorem xb:bF ya ["_law_rows"] (aI mh):=bV (by decide +kernel)
def Yn (s:Stmt):Expr:=match s with|.While t _ _ _=>t|_=>.Constant .none 0 ⟨0,0,0,0⟩
def OM (e:Expr):Expr:=match e with|.ListComp _ (⟨_,_,i::_,_⟩::_) _ _=>i|_=>.Constant .none 0 ⟨0,0,0,0⟩
def ON (e:Expr) (i:Nat):Expr:=match e with|.BoolOp _ es _=>es.getD i (.Constant .none 0 ⟨0,0,0,0⟩)|_=>.Constant .none 0 ⟨0,0,0,0⟩
def adV (e:Expr):Expr:=match e with|.UnaryOp _ x _=>x|_=>.Constant .none 0 ⟨0,0,0,0⟩
abbrev sW:Stmt:=cG (bH mh) 2
abbrev eA:Expr:=iX (cG (bH mh) 0)
abbrev eB:Expr:=kG (Yn sW)
abbrev eC:Expr:=iX (cG (vI sW) 0)
abbrev eD:Expr:=kG (adV (ON (OM eC) 1))
abbrev eE:Expr:=iX (cG (vI sW) 3)
theorem SA:cK ya (aI mh) ["_law_row"] [none] (eg eA):=gi (by decide +kernel)
theorem SE:cK ya (aI mh) ["_law_row"] [none] (eg eB):=gi (by decide +kernel)
theorem SF:cK ya (aI mh) ["_law_row","_law_left"] [none,some 1] (eg eC):=gi (by decide +kernel)
theorem csD:cK ["_law_row","_law_left"] (relabel (eg eC) env) ["_law_other","_law_row"] [none,some 0] (eg eD):=nest rfl (by decide +kernel) (by decide +kernel) rfl (by decide +kernel) (by decide +kernel)
theorem ndD:(["_law_other","_law_row"]:List Str).Nodup:=by decide +kernel
theorem SH:cK ya (aI mh) ["_law_row","_law_free"] [none,some 3] (eg eE):=gi (by decide +kernel)
theorem csG:cK ["_law_row","_law_free"] (relabel (eg eE) env) ["_law_name","_law_free"] [none,some 1] (eg (O6 eE)):=nest rfl (by decide +kernel) (by decide +kernel) rfl (by decide +kernel) (by decide +kernel)
theorem ndG:(["_law_name","_law_free"]:List Str).Nodup:=by decide +kernel
inductive AX (vs:List V) (H:Hp) (Q:VK) (E:XK):Prop
 |mk {l:Addr}{ws:List V}{rows:List (List Str)} (_:vs = [.ref l]) (_:H l=some (.lst ws)) (_:jr (fun _=>True) H ws rows) (_:Small rows) (_:(∀r∈rows,r.Nodup)) (_:(cT (total rows) rows=none -> ∀H',aB H H'->Q .aF H')) (_:(∀o,cT (total rows) rows=some o -> ∀p H',H p=none->aB H H'->H' p=some (.lst (o.map V.str))->Q (.ref p) H')):AX vs H Q E
theorem acm (F:aY K "_law_merged" "_law_merged" mh f fd) (B:gV mg):aS P w K mg base aO 1 f fd ["_law_rows"] AX:=by
 refine F.ok xb (fun vs H Q E h=>?_) (fun aH A outer s H vs Q E hr h=>?_)
 ·obtain⟨rfl,_⟩:=h;rfl
 ·obtain @⟨l,ws,rows,rfl,hl,hR,hS,gC,qn,qs⟩:=h
  have hu:=hr.units;refine⟨_,aA (ba (i:=1) xb.nd rfl (Or.inr rfl) (gM rfl SA (gB (pv 0)) (fun s H fp=>⟨bp (i:=0) SA.nd rfl (Or.inl rfl),hJ,gF (W0 K rfl) rfl B.list boot_list (ae (pv 0) ah)⟩)))
   (aA (ba (i:=2) xb.nd rfl (Or.inl rfl) (dQ ah))
   (aA (vK iR (qQ (fZ (Mx rfl) rfl B.any boot_any (ae (gM rfl SE (gB (pv 1)) (fun s H fp=>⟨bp (i:=0) SE.nd rfl (Or.inl rfl),hJ,qV (lu hu) (pv 0) (dQ ah) (bQ _)⟩)) ah)) (fun _=>rfl))
    (aA (ba (i:=3) xb.nd rfl (Or.inr rfl) (gM rfl SF (gB (pv 1)) (fun s H fp=>⟨bp (i:=0) SF.nd rfl (Or.inr rfl),
      pj (PW.pt (pw_and (bK (lu hu) (pv 0) (dQ ah) (bQ _)) (pw_and1 (pB (pA (fZ (W2 K rfl rfl) rfl B.any boot_any (ae (gM rfl csD (Mr K rfl (pv 1)) (fun s H fp=>⟨bp (i:=0) ndD rfl (Or.inl rfl),hJ,qV (ZY K rfl) (a6 (zD K rfl) (pv 1) ay (fun _ _=>rfl)) (tM (Ym K rfl) (pv 0) (tU ay) tT) rfl⟩)) ah))))))),
      a6 (zD K rfl) (pv 0) ay (fun _ _=>rfl)⟩)))
    (aA (cf (bK (Ae hu) (pv 3) (dQ ah) (bQ _)) (aG (bz iy)) cO)
    (aA (gG (jq k9 vx vy o8 (pv 2) (ae (a6 fJ (pv 3) ay (fun _ _=>rfl)) ah)))
    (aG (ba (i:=1) xb.nd rfl (Or.inr rfl) (gM rfl SH (gB (pv 1)) (fun s H fp=>⟨bp (i:=0) SH.nd rfl (Or.inl rfl),hJ,
      gM rfl csG (Mr K rfl (pv 0)) (fun s H fp=>⟨bp (i:=0) ndG rfl (Or.inl rfl),pj (bK nR (pv 0) (a6 (zD K rfl) (pv 1) ay (fun _ _=>rfl)) (bQ _)),pv 0⟩)⟩))))))))
   (aG (bz (pv 2))))),?_⟩
  refine⟨_,rfl,l,rfl,⟨_,ak.of hl⟩,fun Ck rK=>?_⟩;refine iS (xs:=ws) (fun i ys τ H1=>∃t0:Option V,τ = [t0]/\H1 Ck=some (.lst ys)/\aB H H1/\jr (fun a=>a≠Ck) H1 ys (rows.take i)) ⟨none,rfl,af,ar rK,.nil⟩ (fun i ys τ H1 ⟨_,_,z1,z2,_⟩=>⟨z1,ak.of (z2 _ _ hl)⟩) ?_ ?_
  ·rintro i x ys τ H1 hx ⟨t0,rfl,h1,S1,yb⟩
   obtain⟨a,r,rfl,ip,_,gW⟩:=tK hR hx;have aV:i < ws.length:=(cu.mp hx).1;have tk:rows.take (i+1)=rows.take i ++ [r]:=by rw[eX,ip];rfl
   refine⟨_,rfl,a,_,rfl,.inl (ak.of (S1 _ _ gW)),fun c hc=>?_⟩;have Sc:=ar (o:= .lst (r.map V.str)) hc;have SI:c≠Ck:=aN (aq h1 hc);refine⟨Sc _ _ h1,?_,cw_next aV ⟨_,rfl,af,fun b o hb=>?_,?_⟩⟩
   ·have h2:=qM yb
    have h3:=hS.aX;rw[eJ]at h2;rw[aT];omega
   ·rw[ag (aq hb rK)];exact Sc _ _ (S1 b o hb)
   ·rw[tk]
    refine DB (o6 yb fun b xs nb hb=>⟨nb,by rw[ag nb];exact Sc _ _ hb⟩) SI ?_
    rw[ag SI];exact af
  ·rintro lv0 τ H1 ⟨t0,rfl,h1,S1,yb⟩
   rw[qM hR,eK]at yb;refine⟨bf _,fun fa kS=>?_⟩;have Sf:=ar (o:= .lst []) kS;have uy:H fa=none:=S1.free kS;refine⟨fun m σ H2=>∃rest lv acc la,Qv H rows l fa m σ H2 rest lv acc la,⟨_,rows,lv0,[],Ck,⟨none,rfl⟩,rfl,Sf _ _ h1,o6 yb fun b xs nb hb=>⟨aq hb kS,Sf _ _ hb⟩,aq h1 kS,af,hS,gC,S1.trans Sf,by have:=zu hS.short;have:=hS.aX;simp only[sS];omega,by cases cT (total rows) rows <;> rfl⟩,?_⟩
   rintro m σ H2 ⟨rest,lv,acc,la,R⟩;obtain⟨v3,rfl⟩:=R.st;refine⟨_,rfl,la,rfl,⟨_,ak.of R.gY⟩,fun pb SJ=>?_⟩;refine iS (xs:=lv) (fun i ys τ H3=>∃t0:Option V,τ = [t0]/\ys=((rest.take i).map fun r=>!r.isEmpty).map V.bl/\H3 pb=some (.lst ys)/\aB H2 H3) ⟨none,rfl,rfl,af,ar SJ⟩ (fun i ys τ H3 ⟨_,_,_,z1,z2⟩=>⟨z1,ak.of (z2 _ _ R.gY)⟩) ?_ ?_
   ·rintro i x ys τ H3 hx ⟨t0,rfl,rfl,h3,S3⟩
    obtain⟨a,r,rfl,ip,_,gW⟩:=tK R.rr hx;have aV:i < lv.length:=(cu.mp hx).1;have tk:rest.take (i+1)=rest.take i ++ [r]:=by rw[eX,ip];rfl
    have yc:=kX ip;refine⟨_,rfl,bf _,fun z hz=>?_⟩;have Sz:=ar (o:= .lst []) hz;refine ne_nil (Sz _ _ (S3 _ _ gW)) af (R.sm.nm r yc) ?_;refine⟨Sz _ _ h3,?_,cw_next aV ⟨_,rfl,by rw[tk,bB,bB];rfl,af,fun b o hb=>by rw[ag (aq hb SJ)];exact Sz _ _ (S3 b o hb)⟩⟩
    have h4:=R.sm.aX;rw[aJ,aJ,eJ,aT];omega
   ·rintro bs τ H3 ⟨t0,rfl,rfl,h3,S3⟩
    rw[qM R.rr,eK]at h3;refine⟨pb,_,rfl,ak.of h3,_,rfl,?_⟩;have ean:((rest.map fun r=>!r.isEmpty).any id)=rest.any fun r=>!r.isEmpty:=by rw[La];rfl
    rw[ean];have pN:=S3 _ _ R.gY;have uz:=S3 _ _ R.kS;have yd:jr (fun a=>a≠fa) H3 lv rest:=o6 R.rr fun b xs nb hb=>⟨nb,S3 _ _ hb⟩;have SK:=R.same.trans S3;refine c7 (fun hA=>?_) (fun hA=>?_)
    ·refine⟨fun aK H'=>∃m',m' < m /\ ∃rest lv acc la,Qv H rows l fa m' aK H' rest lv acc la,fun _ _ z=>z,?_⟩
     refine⟨_,rfl,la,rfl,⟨_,ak.of pN⟩,fun pc Jw=>?_⟩;refine iS (xs:=lv) (fun i ys τ H4=>∃t0:Option V,τ = [t0,some (.ref la)]/\ys=(dX rest (rest.take i)).map V.str/\H4 pc=some (.lst ys)/\aB H3 H4) ⟨none,rfl,rfl,af,ar Jw⟩ (fun i ys τ H4 ⟨_,_,_,z1,z2⟩=>⟨z1,ak.of (z2 _ _ pN)⟩) ?_ ?_
     ·rintro i x ys τ H4 hx ⟨t0,rfl,rfl,h4,S4⟩
      obtain⟨a,r,rfl,ip,_,gW⟩:=tK yd hx;have aV:i < lv.length:=(cu.mp hx).1;have tk:rest.take (i+1)=rest.take i ++ [r]:=by rw[eX,ip];rfl
      have yc:=kX ip;have Qw:=S4 _ _ gW;refine⟨_,rfl,bf _,fun z hz=>?_⟩;have Sz:=ar (o:= .lst []) hz;refine ne_nil (Sz _ _ Qw) af (R.sm.nm r yc) ⟨_,rfl,?_⟩;have h5:=Sz _ _ h4;cases r with
      |nil=>exact cw_next aV ⟨_,rfl,by rw[tk,vD];show _=(_ ++ []).map _;rw[jM],h5,S4.trans Sz⟩
      |cons y t =>
       refine⟨_,rfl,la,rfl,⟨_,ak.of (Sz _ _ (S4 _ _ pN))⟩,fun pd ye=>?_⟩;have npd:pc≠pd:=aq h5 ye;refine iS (xs:=lv) (fun j ys τ H6=>∃t1:Option V,τ = [t1,some (.ref a)]/\ys=((rest.take j).map fun o=>decide (y∈o.drop 1)).map V.bl/\H6 pd=some (.lst ys)/\aB (upd H4 z (.lst [])) H6) ⟨none,rfl,rfl,af,ar ye⟩ (fun j ys τ H6 ⟨_,_,_,z1,z2⟩=>⟨z1,ak.of (z2 _ _ (Sz _ _ (S4 _ _ pN)))⟩) ?_ ?_
       ·rintro j x ys τ H6 SM ⟨t1,rfl,rfl,h6,S6⟩
        obtain⟨b,o,rfl,hoj,_,hob⟩:=tK yd SM;have b6:j < lv.length:=(cu.mp SM).1;have j':rest.take (j+1)=rest.take j ++ [o]:=by rw[eX,hoj];rfl
        have SN:=S4.trans (Sz.trans S6);refine⟨_,rfl,a,_,0,.str y,rfl,rfl,ak.of (SN _ _ gW),qh,?_⟩;refine⟨_,rfl,_,rfl,b,_,rfl,ak.of (SN _ _ hob),fun p2 jA=>?_⟩;have ec:jW (o.map V.str) (some 1) none=(o.drop 1).map V.str:=by
         rw[show(1:Int)=((1:Nat):Int) from rfl,Ef,V0]
        rw[ec];have S7:=ar (o:= .lst ((o.drop 1).map V.str)) jA;refine⟨p2,_,rfl,.inl (ak.of af),rfl,qP _,?_⟩;rw[aj cw,qR];refine⟨S7 _ _ h6,?_,cw_next b6 ⟨_,rfl,by rw[j',bB,bB];rfl,af,fun c u hc=>by rw[ag (aq hc ye)];exact S7 _ _ (S6 c u hc)⟩⟩
        have h8:=R.sm.aX;rw[aJ,aJ,eJ,aT];omega
       ·rintro bs2 τ H6 ⟨t1,rfl,rfl,h6,S6⟩
        rw[qM yd,eK]at h6;refine⟨pd,_,rfl,ak.of h6,_,rfl,?_⟩;have eb:((rest.map fun o=>decide (y∈o.drop 1)).any id)=busy rest y:=by unfold busy;rw[La];rfl
        rw[eb];have yf:=Sz.trans S6;cases hb:busy rest y with
        |true =>
         refine cw_next aV ⟨_,rfl,?_,S6 _ _ h5,S4.trans yf⟩;rw[tk,vD];show _=(_++(if busy rest y then dX rest [] else y::dX rest [])).map _;rw[hb];show _=(_ ++ []).map _;rw[jM]
        |false =>
         refine⟨_,rfl,a,_,0,.str y,rfl,rfl,ak.of (yf _ _ Qw),qh,S6 _ _ h5,?_,cw_next aV ⟨_,rfl,?_,af,fun c u hc=>by rw[ag (aq hc Jw)];exact yf _ _ (S4 c u hc)⟩⟩
         ·have h8:=DX rest (rest.take i)
          have h9:=R.sm.aX;rw[eJ]at h8;rw[aJ,aT];omega
         ·rw[tk,vD]
          show _=(_++(if busy rest y then dX rest [] else y::dX rest [])).map _;rw[hb,bB];rfl
     ·rintro fr τ H4 ⟨t0,rfl,rfl,h4,S4⟩
      rw[qM yd,eK]at h4;have SO:∀x∈dX rest rest,Nm x:=fun x hx=>by
       obtain⟨r,hr,e⟩:=zH hx;exact R.sm.nm r hr x e
      have hfh:=DN R.nd rest;refine⟨_,rfl,bf _,fun z hz=>?_⟩;have Sz:=ar (o:= .lst []) hz;refine eq_nil (Sz _ _ h4) af SO ⟨_,rfl,?_⟩;have gJ:iu rest=(dX rest rest).head?:=hfh.symm;have Jx:=SK.trans (S4.trans Sz);have h5:=Sz _ _ h4;have Qx:=Sz _ _ (S4 _ _ pN);have Gh:=Sz _ _ (S4 _ _ uz);generalize dX rest rest=fr at gJ h5 SO ⊢;cases fr with
      |nil =>
       refine qn ?_ _ Jx;rw[R.eq,DK hA gJ];rfl
      |cons n ft =>
       have e:iu rest=some n:=gJ;have lt:=sV (tJ e);generalize hG:upd H4 z (.lst [])=G at Jx h5 Qx Gh Sz ⊢;have rrG:jr (fun a=>a≠fa) G lv rest:=o6 yd fun b xs nb hb=>⟨nb,Sz _ _ (S4 _ _ hb)⟩;refine⟨_,rfl,.inl ⟨rfl,_,ak.of Gh⟩,_,rfl,pc,_,0,.str n,rfl,rfl,ak.of h5,qh,fa,_,_,rfl,rfl,Gh,by have:=R.lim;rw[aJ,aT];omega,?_⟩
       have u6:pc≠fa:=aN (aq uz Jw);have h6:(upd G fa (.lst (acc.map V.str ++ [.str n]))) pc=some (.lst ((n::ft).map V.str)):=by rw[ag u6];exact h5
       have Gi:(upd G fa (.lst (acc.map V.str ++ [.str n]))) la=some (.lst lv):=by rw[ag R.ne];exact Qx
       have AY:(upd G fa (.lst (acc.map V.str ++ [.str n]))) fa=some (.lst ((acc ++ [n]).map V.str)):=by rw[af,bB];rfl
       have SQ:aB H (upd G fa (.lst (acc.map V.str ++ [.str n]))):=fun b o hb=>by rw[ag (aq hb uy)];exact Jx b o hb
       have Jy:jr (fun a=>a≠fa) (upd G fa (.lst (acc.map V.str ++ [.str n]))) lv rest:=o6 rrG fun b xs nb hb=>⟨nb,by rw[ag nb];exact hb⟩
       generalize upd G fa (.lst (acc.map V.str ++ [.str n]))=G6 at h6 Gi AY SQ Jy ⊢;refine⟨_,rfl,la,rfl,⟨_,ak.of Gi⟩,fun le hle=>?_⟩;have nle:le≠fa:=aN (aq AY hle);refine iS (xs:=lv) (fun i ys τ H7=>∃t0:Option V,τ = [t0,some (.ref pc)]/\H7 le=some (.lst ys)/\aB G6 H7/\jr (fun a=>a≠fa/\a≠le) H7 ys (L2.without n (rest.take i))) ⟨none,rfl,af,ar hle,.nil⟩ (fun i ys τ H7 ⟨_,_,z1,z2,_⟩=>⟨z1,ak.of (z2 _ _ Gi)⟩) ?_ ?_
       ·rintro i x ys τ H7 hx ⟨t0,rfl,h7,S7,yg⟩
        obtain⟨a,r,rfl,ip,_,gW⟩:=tK Jy hx;have aV:i < lv.length:=(cu.mp hx).1;have tk:rest.take (i+1)=rest.take i ++ [r]:=by rw[eX,ip];rfl
        have yc:=kX ip;have Gj:=S7 _ _ gW;have Qy:=S7 _ _ h6;refine⟨_,rfl,a,rfl,⟨_,ak.of Gj⟩,fun b1 ik=>?_⟩;have Jt:a≠b1:=aq Gj ik;have u7:pc≠b1:=aq Qy ik;have SR:b1≠le:=aN (aq h7 ik);have nbf:b1≠fa:=aN (aq (S7 _ _ AY) ik);refine iS (xs:=r.map V.str) (fun j zs gH H8=>∃t1:Option V,gH = [t1,some (.ref pc)]/\zs=((r.take j).filter fun y=>!decide (y=n)).map V.str/\H8=upd H7 b1 (.lst zs)) ⟨none,rfl,rfl,rfl⟩ (fun j zs gH H8 ⟨_,_,_,z⟩=>by rw[z];exact⟨af,ak.of (by rw[ag Jt];exact Gj)⟩) ?_ ?_
        ·rintro j x zs gH H8 di ⟨t1,rfl,rfl,rfl⟩
         have b6:j < (r.map V.str).length:=(cu.mp di).1;have mU:j < r.length:=by simpa using b6
         obtain rfl:V.str r[j]=x:=by simpa [mU] using di
         have j':r.take (j+1)=r.take j ++ [r[j]]:=by rw[eX,b4 mU];rfl
         refine⟨_,rfl,_,rfl,pc,_,0,.str n,rfl,rfl,ak.of (by rw[ag u7];exact Qy),qh,rfl,_,rfl,?_⟩
         refine c7 (fun bY=>?_) (fun bY=>?_)
         ·have rJ:r[j]≠n:=fun z=>by rw[z]at bY;simp at bY
          refine⟨_,rfl,af,?_,cw_next b6 ⟨_,rfl,?_,by rw[iw]⟩⟩
          ·have h1:=nJ (fun y=>!decide (y=n)) (r.take j)
           have h2:(r.take j).length<=r.length:=by rw[eJ];omega
           have h3:=R.sm.short r yc;rw[aJ,aT];omega
          ·rw[j',nK,bB,zo (by simpa using rJ)];rfl
         ·have hy:r[j]=n:=by
           by_cases z:r[j]=n
           ·exact z
           ·exact absurd (by simp[z]) bY
          refine cw_next b6 ⟨_,rfl,?_,rfl⟩;rw[j'];simp[hy]
        ·rintro zs gH H8 ⟨t1,rfl,rfl,rfl⟩
         rw[aJ,eK];have Sb:=ar (o:= .lst ((r.filter fun y=>!decide (y=n)).map V.str)) ik;refine⟨Sb _ _ h7,?_,cw_next aV ⟨_,rfl,af,fun b o hb=>?_,?_⟩⟩
         ·have h1:=qM yg
          have h2:(L2.without n (rest.take i)).length<=rest.length:=by unfold L2.without;rw[aJ,eJ];omega
          have h3:=R.sm.aX;rw[aT];omega
         ·rw[ag (aq hb hle)];exact Sb _ _ (S7 b o hb)
         ·have e1:L2.without n (rest.take (i+1))=L2.without n (rest.take i) ++ [r.filter fun y=>!decide (y=n)]:=by rw[tk];unfold L2.without;rw[bB];rfl
          rw[e1];refine DB (o6 yg fun b xs nb hb=>⟨nb,by rw[ag nb.2];exact Sb _ _ hb⟩) ⟨nbf,SR⟩ ?_
          rw[ag SR];exact af
       ·rintro ys τ H7 ⟨t0,rfl,h7,S7,yg⟩
        rw[qM Jy,eK]at yg;refine⟨_,by rw[R.mm];exact lt,L2.without n rest,ys,acc ++ [n],le,⟨_,rfl⟩,rfl,h7,o6 yg fun b xs nb hb=>⟨nb.1,hb⟩,nle,S7 _ _ AY,LB R.sm,L6 R.nd,SQ.trans S7,?_,?_⟩
        ·have:=R.lim;rw[dz,sR];omega
        ·rw[R.eq,DL hA e,VY]
         congr 1
         funext z
         simp
    ·refine⟨_,rfl,qs acc ?_ fa H3 uy SK uz⟩
     rw[R.eq,DJ (by simpa using hA)]
     show some (acc ++ [])=some acc;rw[jM]
structure pO (mg:Str->Option Value):Prop where
 SS:mg "isinstance" = none
 str:mg "str" = none
 dict:mg "dict" = none
 sorted:mg "sorted" = none
theorem Nx:bootBuiltins "isinstance" = some (.builtin "isinstance"):=by decide +kernel
theorem boot_str:bootBuiltins "str" = some (.type "str"):=by decide +kernel
theorem boot_dict:bootBuiltins "dict" = some (.type "dict"):=by decide +kernel
theorem boot_sorted:bootBuiltins "sorted" = some (.builtin "sorted"):=by decide +kernel
theorem boot_all:bootBuiltins "all" = some (.builtin "all"):=by decide +kernel
theorem W3 (K:Frag) (h:X.K=K) (hc:X.calm=true):eu X (.builtin "all") (fun xs H Q=>∃ (p:Addr) (bs:List Bool),xs = [.ref p]/\ak K H p (bs.map V.bl)/\Q (.bl (bs.all id)) H):=by subst h;exact Ms hc
theorem ite_ff {A B:Prop}{k:Bool} (hk:k=false) (h:B):if k=true then A else B:=by subst hk;exact h
theorem ite_tt {A B:Prop}{k:Bool} (hk:k=true) (h:A):if k=true then A else B:=by subst hk;exact h
inductive ud (vs:List V) (H:Hp) (Q:VK) (E:XK):Prop
 |mk {x:Str} (_:vs = [.str x]) (_:Nm x) (_:∀H',aB H H'->Q (.bl true) H'):ud vs H Q E
theorem abo:bF ["thing"] ["thing"] (aI vV):=bV (by decide +kernel)
abbrev adW:Expr:=kG (AW (cG (bH vV) 1))
theorem O7:cK ["thing"] (aI vV) ["sign"] [none] (eg adW):=gi (by decide +kernel)
theorem aar (F:aY K "is_name" "is_name" vV f fd) (B:gV mg) (B2:pO mg):aS P w K mg base aO 1 f fd ["thing"] ud:=by
 refine F.ok abo (fun vs H Q E h=>?_) (fun aH A outer s H vs Q E hr h=>?_)
 ·obtain⟨rfl,_⟩:=h;rfl
 ·obtain @⟨x,rfl,hx,q⟩:=h
  have hu:=hr.units;refine⟨_,aA (cf (PW.pt (pw_or (pB (pA (fZ M' rfl B2.SS Nx (ae (pv 0) (ae (NS (v:= .ty "str") rfl B2.str boot_str rfl) ah)))))
     (pw_or1 (pB (YC OU OU ay (fZ Ws rfl B.len vz (ae (pv 0) ah)) ay))))) (aG (bz pH)) cO)
   (aG (bz (fZ (Ms rfl) rfl B.all boot_all (ae (gM rfl O7 (abd (pv 0)) (fun s H fp=>⟨bp (i:=0) O7.nd rfl (Or.inl rfl),hJ,YB My My b9 (pv 0) b9⟩)) ah)))),?_⟩
  have mS:=hx.lo;have kJ:=hx.hi;have SU:x.cps.size<=8:=hx.hi;refine⟨_,rfl,⟨_,.inr ⟨"str",rfl⟩⟩,.str x,.ty "str",.type "str",.type "str",true,rfl,rfl,.inl (.str x),rfl,true,rfl,?_⟩;refine⟨_,rfl,x,rfl,by rw[aT];omega,1,x.length,rfl,rfl,_,rfl,?_⟩
  refine ite_tt (fY (by omega)) ?_
  refine⟨x.length,8,rfl,rfl,_,rfl,?_⟩;have e8:decide ((x.length:Int)<=8)=true:=fY (by omega)
  rw[e8];refine⟨_,rfl,x,rfl,fun p hp=>?_⟩;refine YU (fun i ys τ H1=>∃t0:Option V,τ = [t0]/\ys=(List.replicate i true).map V.bl/\H1=upd H p (.lst ys)) ⟨none,rfl,rfl,rfl⟩ (fun i ys τ H1 ⟨_,_,_,z⟩=>by rw[z];exact af) ?_ ?_
  ·rintro i c ys τ H1 hc ⟨t0,rfl,rfl,rfl⟩
   have cD:i < x.cps.size:=by
    obtain⟨h,_⟩:=K'.mp hc;exact h
   have hcz:=hx.az c (Array.mem_def.mp (anM hc));have e1:(!decide ((⟨#[c]⟩:Str).cps.toList < (Str.ofString "a").cps.toList))=true:=by
    have : ¬ ([c] < [97]):=by simp[aoe];omega
    have hA:(Str.ofString "a").cps.toList = [97]:=by decide +kernel
    rw[hA];simpa using this
   have e2:(!decide ((Str.ofString "z").cps.toList < (⟨#[c]⟩:Str).cps.toList))=true:=by
    have : ¬ ([122] < [c]):=by simp[aoe];omega
    have hA:(Str.ofString "z").cps.toList = [122]:=by decide +kernel
    rw[hA];simpa using this
   refine⟨_,rfl,_,_,rfl,rfl,_,rfl,ite_tt e1 ⟨_,_,rfl,rfl,af,by rw[aJ,anv,aT];omega,cw_next cD ⟨_,rfl,?_,?_⟩⟩⟩
   ·rw[e2,List.replicate_succ',bB];rfl
   ·rw[iw]
  ·rintro ys τ H1 ⟨t0,rfl,rfl,rfl⟩
   refine⟨p,_,rfl,ak.of af,?_⟩;have:(List.replicate x.cps.size true).all id=true:=by simp
   rw[this];exact q _ (ar hp)
theorem Yo {kvs:List (Key×V)}{g:Str->V}{Q:VK} (ha:H a=some (.tup (ps.map V.str))) (hd:H d=some (.dK kvs)) (hg:∀x∈ps,bo kvs (Sum.inr x)=some (g x)) (hp:H p=none) (hs:ps.length<=100)
  (q:Q (.ref p) (upd H p (.lst (ps.map g)))):mr (ou K a) (rq 0) As (Fg (hX 1) (hX 0)) [none,some (.ref d)] Q p H:=by
 have yh:a≠p:=aq ha hp;have yi:d≠p:=aq hd hp;refine vM (xs:=ps.map V.str) (fun j zs τ H2=>∃t1:Option V,τ = [t1,some (.ref d)]/\zs=(ps.take j).map g/\H2=upd H p (.lst zs)) ⟨none,rfl,rfl,rfl⟩ (fun j zs τ H2 ⟨_,_,_,z⟩=>by rw[z];exact⟨af,aE.of (by rw[ag yh];exact ha)⟩) ?_ ?_
 ·rintro j x zs τ H2 hx ⟨t1,rfl,rfl,rfl⟩
  obtain⟨b6,mU,rfl,j'⟩:=EY hx;refine⟨_,rfl,_,rfl,d,g ps[j],rfl,?_,af,?_,cw_next b6 ⟨_,rfl,?_,by rw[iw]⟩⟩
  ·rw[<-hg _ (kY mU)];exact cU.k (k:=Sum.inr ps[j]) (by rw[ag yi];exact hd)
  ·rw[aJ,eJ,aT];omega
  ·rw[j',bB];rfl
 ·rintro zs τ H2 ⟨t1,rfl,rfl,rfl⟩
  rw[aJ,eK];exact q
theorem Yp {kvs:List (Key×V)}{g:Str->V}{Q:VK} (ha:H a=some (.lst (ps.map V.str))) (hd:H d=some (.dK kvs)) (hg:∀x∈ps,bo kvs (Sum.inr x)=some (g x)) (hp:H p=none) (hs:ps.length<=100)
  (q:Q (.ref p) (upd H p (.lst (ps.map g)))):mr (rW K a) (rq 0) As (Fg (hX 1) (hX 0)) [none,some (.ref d)] Q p H:=by
 have yh:a≠p:=aq ha hp;have yi:d≠p:=aq hd hp;refine iS (xs:=ps.map V.str) (fun j zs τ H2=>∃t1:Option V,τ = [t1,some (.ref d)]/\zs=(ps.take j).map g/\H2=upd H p (.lst zs)) ⟨none,rfl,rfl,rfl⟩ (fun j zs τ H2 ⟨_,_,_,z⟩=>by rw[z];exact⟨af,ak.of (by rw[ag yh];exact ha)⟩) ?_ ?_
 ·rintro j x zs τ H2 hx ⟨t1,rfl,rfl,rfl⟩
  obtain⟨b6,mU,rfl,j'⟩:=EY hx;refine⟨_,rfl,_,rfl,d,g ps[j],rfl,?_,af,?_,cw_next b6 ⟨_,rfl,?_,by rw[iw]⟩⟩
  ·rw[<-hg _ (kY mU)];exact cU.k (k:=Sum.inr ps[j]) (by rw[ag yi];exact hd)
  ·rw[aJ,eJ,aT];omega
  ·rw[j',bB];rfl
 ·rintro zs τ H2 ⟨t1,rfl,rfl,rfl⟩
  rw[aJ,eK];exact q
def rowsOf (L:Str->List Str) (ps:List Str):List (List Str):=ps.map L ++ [ps]
def kc (H:Hp) (kvs:List (Key×V)) (L:Str->List Str) (x:Str):Prop:= ∃a,bo kvs (Sum.inr x)=some (.ref a)/\H a=some (.tup ((L x).map V.str))
theorem kc.same {kvs:List (Key×V)} (h:kc H kvs L x) (s:aB H H'):kc H' kvs L x:=let ⟨a,e,q⟩:=h;⟨a,e,s _ _ q⟩
theorem aas {kvs:List (Key×V)} (h:∀x∈ps,kc H kvs L x):∃g:Str->V,(∀x∈ps,bo kvs (Sum.inr x)=some (g x))/\e7 H (ps.map g) (ps.map L):=by
 refine⟨fun x=>(bo kvs (Sum.inr x)).getD .aF,fun x hx=>?_,?_⟩
 ·obtain⟨a,e,_⟩:=h x hx;show _=some ((bo kvs (Sum.inr x)).getD V.aF);rw[e];rfl
 ·induction ps with
  |nil=>exact .nil
  |cons x ps ih =>
   obtain⟨a,e,q⟩:=h x aW;exact .cons ⟨a,by show(bo kvs (Sum.inr x)).getD V.aF=_;rw[e];rfl,q⟩ (ih fun y hy=>h y (bq _ hy))
inductive AZ (vs:List V) (H:Hp) (Q:VK) (E:XK):Prop
 |mk {d pa:Addr}{kvs:List (Key×V)}{L:Str->List Str}{k:Str}{ps o:List Str} (_:vs = [.ref d,.str k,.ref pa]) (_:H d=some (.dK kvs)) (_:H pa=some (.tup (ps.map V.str))) (_:(∀x∈ps,kc H kvs L x)) (_:Small (rowsOf L ps)) (_:cT (total (rowsOf L ps)) (rowsOf L ps)=some o) (_:o.length<=100) (_:∀p H',aB H H'->H' p=some (.tup ((k::o).map V.str))->Q (.ref p) H'):AZ vs H Q E
abbrev SV:List Str:= ["lines","kind","parents","rows","refusal"]
theorem Qz:bF SV ["lines","kind","parents"] (aI vH):=bV (by decide +kernel)
def QA (e:Expr):Expr:=match e with|.BinOp a _ _ _=>a|_=>.Constant .none 0 ⟨0,0,0,0⟩
abbrev eLF:Expr:=QA (kG (iX (cG (bH vH) 0)))
theorem QB:cK SV (aI vH) ["parent","lines"] [none,some 0] (eg eLF):=gi (by decide +kernel)
theorem acn {yj:FuncData} (F:aY K "line_from" "line_from" vH f fd) (B:gV mg) (GM:dq P w K mg base aO 3 fM yj ["rows"] zN "merged") :
  aS P w K mg base aO 4 f fd ["lines","kind","parents"] AZ:=by
 refine F.ok Qz (fun vs H Q E h=>?_) (fun aH A outer s H vs Q E hr h=>?_)
 ·obtain⟨rfl,_⟩:=h;rfl
 ·obtain @⟨d,pa,kvs,L,k,ps,o,rfl,hd,Jz,hl,hS,hm,qa,q⟩:=h
  have hu:=hr.units;have bO:=iE hu;refine⟨_,aA (ba (i:=3) Qz.nd rfl (Or.inl rfl) (gF sX rfl B.tuple boot_tuple (ae (cH v9 (gM rfl QB (t4 (pv 2)) (fun s H fp=>⟨bp (i:=0) QB.nd rfl (Or.inl rfl),hJ,jP bO (pv 1) (pv 0) (fun _ _=>rfl)⟩)) (dQ (ae (pv 2) ah))) ah)))
   (aG (YT (aG (bz (cH N4 (bJ (ae (pv 1) ah)) (cQ GM hr (ae (pv 3) ah))))) rfl)),?_⟩
  obtain⟨g,hg,hR⟩:=aas hl;have cS:ps.length<=20:=hS.short ps (fH _ aW);refine⟨_,rfl,pa,rfl,⟨_,aE.of Jz⟩,fun c hc=>Yo Jz hd hg hc (by omega) ?_⟩
  have S1:=ar (o:= .lst (ps.map g)) hc;refine⟨_,rfl,gI,fun c2 gT=>?_⟩;have S2:=S1.trans (ar (o:= .lst [V.ref pa]) gT);refine⟨c,c2,_,_,rfl,rfl,by rw[ag (aq af gT)];exact af,af,by rw[aJ,aT];show _+1<=_;omega,fun c3 sA=>?_⟩
  have S3:=S2.trans (ar (o:= .lst (ps.map g ++ [V.ref pa])) sA);refine⟨c3,_,rfl,.inl ⟨ak.of af,fun r hr=>?_⟩⟩;have S4:=S3.trans (ar (o:= .tup (ps.map g ++ [V.ref pa])) hr);refine⟨_,rfl,gI,fun c4 sr=>?_⟩;have S5:=S4.trans (ar (o:= .tup [V.str k]) sr);refine⟨_,rfl,zN.mk rfl (rows:=rowsOf L ps) (by rw[ag (aq af sr)];exact af) (e7.append (hR.same S5) (S5 _ _ Jz)) hS hm fun m H6 hm6 S6 h6=>?_⟩
  refine⟨c4,m,_,_,rfl,rfl,S6 _ _ af,h6,by rw[aJ,aT];show 1+_<=_;omega,fun p H7 S7 h7=>?_⟩
  exact q p H7 (S5.trans (S6.trans S7)) h7
def eO (H:Hp) (vs:List V) (aQ:List (Str×List Str)):Prop:=Paired (fun y p=>∃a b,y=V.ref a/\H a=some (.tup [.str p.1,.ref b])/\H b=some (.tup (p.2.map V.str))) vs aQ
theorem eO.keep (h:eO H vs aQ) (s:∀b xs,H b=some (.tup xs)->H' b=some (.tup xs)):eO H' vs aQ:=Paired.imp' (fun _ _ ⟨a,b,e,q,r⟩=>⟨a,b,e,s _ _ q,s _ _ r⟩) h
theorem eO.same (h:eO H vs aQ) (s:aB H H'):eO H' vs aQ:=h.keep fun _ _ e=>s _ _ e
theorem eO.length (h:eO H vs aQ):vs.length=aQ.length:=gZ h
theorem eO.append {p:Str×List Str} (h:eO H vs aQ) (q:H a=some (.tup [.str p.1,.ref b])) (r:H b=some (.tup (p.2.map V.str))):eO H (vs ++ [.ref a]) (aQ ++ [p]):=qJ h ⟨a,b,rfl,q,r⟩
structure pI (aQ:List (Str×List Str)) (L:Str->List Str):Prop where
 nd:(aQ.map (·.1)).Nodup
 aX:aQ.length<=8
 nm:∀p∈aQ,Nm p.1
 up:∀p∈aQ,∀x∈p.2,∃q∈aQ,q.1=x
 rank:∃r:Str->Nat,∀p∈aQ,∀x∈p.2,r x < r p.1
 line:∀p∈aQ,Small (rowsOf L p.2) /\ ∃o,cT (total (rowsOf L p.2)) (rowsOf L p.2)=some o/\L p.1=p.1::o/\o.length<=100
theorem pI.perm {xc:List (Str×List Str)} (h:pI aQ L) (p:xc.Perm aQ):pI xc L:=by
 have m:∀ {q},q∈xc ↔ q∈aQ:=fun {q}=>p.mem_iff;obtain⟨r,hr⟩:=h.rank;exact⟨(p.map _).nodup_iff.mpr h.nd,by rw[p.length_eq];exact h.aX,fun q hq=>h.nm q (m.mp hq),fun q hq x hx=>let ⟨z,hz,e⟩:=h.up q (m.mp hq) x hx;⟨z,m.mpr hz,e⟩,⟨r,fun q hq=>hr q (m.mp hq)⟩,fun q hq=>h.line q (m.mp hq)⟩
def isDone (kvs:List (Key×V)) (x:Str):Bool:=(bo kvs (Sum.inr x)).isSome
theorem Zk {rest:List (Str×List Str)} (ok:pI aQ L) (sub:∀p∈rest,p∈aQ) (all:∀p∈aQ,dn p.1=true\/p∈rest) (ne:rest ≠ []):∃p∈rest,∀x∈p.2,dn x=true:=by
 obtain⟨r,hr⟩:=ok.rank;have key:∀n,∀p∈rest,r p.1=n -> ∃q∈rest,∀x∈q.2,dn x=true:=by
  intro n
  induction n using Nat.strongRecOn with
  |_ n ih =>
   intro p hp e
   by_cases h:∀x∈p.2,dn x=true
   ·exact⟨p,hp,h⟩
   ·simp only[Classical.not_forall]at h
    obtain⟨x,hx,gC⟩:=h;obtain⟨q,hq,rfl⟩:=ok.up p (sub p hp) x hx;have lt:=hr p (sub p hp) q.1 hx;rcases all q hq with z|z
    ·exact absurd z gC
    ·exact ih _ (by omega) q z rfl
 cases rest with
 |nil=>exact absurd rfl ne
 |cons p t=>exact key _ p aW rfl
def ix (dn:Str->Bool) (rest:List (Str×List Str)):List (Str×List Str):=rest.filter fun p=>(p.2.map dn).all id
theorem MU {rest:List (Str×List Str)}{p:Str×List Str}:p∈ix dn rest ↔ p∈rest /\ ∀x∈p.2,dn x=true:=by
 unfold ix;rw[kz,List.all_map,zj];rfl
theorem L7 {α:Type} (f:α->Bool):∀l:List α,(l.filter f).length+(l.filter fun x=>!f x).length=l.length
 |[]=>rfl
 |x::l=>by
  have ih:=L7 f l;cases h:f x <;> simp[Dm,h] <;> omega
theorem Yq {Cm:Str->Bool}{rest:List (Str×List Str)} (h:∀p∈ix dn rest,Cm p.1=true):(rest.filter fun p=>!Cm p.1).length+(ix dn rest).length<=rest.length:=by
 have e:rest.length=(rest.filter fun p=>(p.2.map dn).all id).length+(rest.filter fun p=>!(p.2.map dn).all id).length:=by
  exact(L7 (fun p:Str×List Str=>(p.2.map dn).all id) rest).symm
 have le:(rest.filter fun p=>!Cm p.1).length<=(rest.filter fun p=>!(p.2.map dn).all id).length:=by
  rw[<-aof,<-aof];refine List.countP_mono_left fun p hp h1=>?_;cases z:(p.2.map dn).all id with
  |false=>rfl
  |true =>
   have:=h p (kz.mpr ⟨hp,z⟩);rw[this]at h1;cases h1
 unfold ix;omega
theorem Zl {kvs:List (Key×V)}{Q:VK} (ha:H a=some (.tup (ps.map V.str))) (hd:H d=some (.dK kvs)) (hp:H p=none) (hs:ps.length<=100)
  (q:Q (.ref p) (upd H p (.lst ((ps.map (isDone kvs)).map V.bl)))):mr (ou K a) (rq 0) As (Qf (hX 0) (hX 1)) [none,some (.ref d)] Q p H:=by
 have yh:a≠p:=aq ha hp;have yi:d≠p:=aq hd hp;refine vM (xs:=ps.map V.str) (fun j zs τ H2=>∃t1:Option V,τ = [t1,some (.ref d)]/\zs=((ps.take j).map (isDone kvs)).map V.bl/\H2=upd H p (.lst zs)) ⟨none,rfl,rfl,rfl⟩ (fun j zs τ H2 ⟨_,_,_,z⟩=>by rw[z];exact⟨af,aE.of (by rw[ag yh];exact ha)⟩) ?_ ?_
 ·rintro j x zs τ H2 hx ⟨t1,rfl,rfl,rfl⟩
  obtain⟨b6,mU,rfl,j'⟩:=EY hx;refine⟨_,rfl,_,rfl,d,_,rfl,cU.k (k:=Sum.inr ps[j]) (by rw[ag yi];exact hd),af,?_,cw_next b6 ⟨_,rfl,?_,by rw[iw]⟩⟩
  ·rw[aJ,aJ,eJ,aT];omega
  ·rw[j',bB,bB];rfl
 ·rintro zs τ H2 ⟨t1,rfl,rfl,rfl⟩
  rw[aJ,eK];exact q
def rD (aQ:List (Str×List Str)) (kvs:List (Key×V)):Prop:=(kvs.map (·.1)).Nodup /\ ∀k∈kvs.map (·.1),∃p∈aQ,k=Sum.inr p.1
theorem MV (kvs:List (Key×V)) (k:Key) (v:V):(k∈kvs.map (·.1)/\(putK kvs k v).map (·.1)=kvs.map (·.1))\/(k ∉ kvs.map (·.1)/\(putK kvs k v).map (·.1)=kvs.map (·.1) ++ [k]):=by
 have e:(kvs.any fun kv=>decide (kv.1=k))=true ↔ k∈kvs.map (·.1):=by
  rw[zk,br];exact⟨fun⟨x,h,d⟩=>⟨x,h,iQ d⟩,fun⟨x,h,d⟩=>⟨x,h,fY d⟩⟩
 unfold putK
 by_cases h:k∈kvs.map (·.1)
 ·refine .inl ⟨h,?_⟩
  rw[ax (e.mpr h),vw];refine VO fun kv _=>?_;show(if kv.1=k then (kv.1,v) else kv).1=kv.1;split <;> rfl
 ·refine .inr ⟨h,?_⟩
  rw[aj fun z=>h (e.mp z),bB];rfl
theorem Zm {kvs:List (Key×V)}{k j:Key}:j∈(putK kvs k v).map (·.1) ↔ j=k\/j∈kvs.map (·.1):=by
 rcases MV kvs k v with⟨h,e⟩|⟨h,e⟩
 ·rw[e];exact⟨.inr,fun z=>z.elim (fun e=>e ▸ h) id⟩
 ·rw[e,ee,dH];exact Or.comm
theorem aat {kvs:List (Key×V)}{k:Key} (h:(kvs.map (·.1)).Nodup):((putK kvs k v).map (·.1)).Nodup:=by
 rcases MV kvs k v with⟨_,e⟩|⟨hn,e⟩
 ·rw[e];exact h
 ·rw[e,g9]
  exact⟨h,by simp,fun a ha b hb e=>hn (by rw[<-(dH.mp hb),<-e];exact ha)⟩
theorem rD.put {kvs:List (Key×V)}{p:Str×List Str} (h:rD aQ kvs) (hp:p∈aQ):rD aQ (putK kvs (Sum.inr p.1) v):=by
 refine⟨aat h.1,fun k hk=>?_⟩;rcases Zm.mp hk with z|z
 ·exact⟨p,hp,z⟩
 ·exact h.2 k z
theorem Ny:∀ {kvs:List (Key×V)}{x:Str},isDone kvs x=true->Sum.inr x∈kvs.map (·.1)
 |[],x,h=>by cases h
 |(a,b)::kvs,x,h=>by
  by_cases e:a=Sum.inr x
  ·rw[e];exact aW
  ·unfold isDone at h;rw[hU e]at h
   exact bq _ (Ny h)
theorem Xz {α:Type}{a b:List α} (ha:a.Nodup) (hb:b.Nodup) (h:∀x,x∈a ↔ x∈b):a.Perm b:=(List.perm_ext_iff_of_nodup ha hb).mpr h
theorem abp {l:List Str} (h:l.Nodup):(l.map (Sum.inr:Str->Key)).Nodup:=by
 induction l with
 |nil=>exact jl
 |cons x l ih =>
  rw[g8]at h;rw[fX,g8];refine⟨fun z=>?_,ih h.2⟩;obtain⟨y,hy,e⟩:=br.mp z;exact h.1 (nj e ▸ hy)
theorem rD.perm {kvs:List (Key×V)} (h:rD aQ kvs) (ok:pI aQ L) (all:∀p∈aQ,isDone kvs p.1=true):(kvs.map (·.1)).Perm ((aQ.map (·.1)).map Sum.inr):=by
 refine Xz h.1 (abp ok.nd) fun x=>⟨fun hx=>?_,fun hx=>?_⟩
 ·obtain⟨p,hp,rfl⟩:=h.2 x hx
  exact br.mpr ⟨p.1,br.mpr ⟨p,hp,rfl⟩,rfl⟩
 ·obtain⟨y,hy,rfl⟩:=br.mp hx
  obtain⟨p,hp,rfl⟩:=br.mp hy;exact Ny (all p hp)
structure QC (H:Hp) (aQ:List (Str×List Str)) (L:Str->List Str) (t d:Addr) (m:Nat) (σ:St) (H1:Hp) (kvs:List (Key×V)) (rest:List (Str×List Str)) (wv:List V) (wa:Addr):Prop where
 st:∃v3 v4 v5:Option V,σ = [some (.ref t),some (.ref d),some (.ref wa),v3,v4,v5]
 mm:m=rest.length
 hd:H1 d=some (.dK kvs)
 hw:H1 wa=some (.lst wv)
 fv:eO H1 wv rest
 sub:∀p∈rest,p∈aQ
 all:∀p∈aQ,isDone kvs p.1=true\/p∈rest
 ln:∀x,isDone kvs x=true->kc H1 kvs L x
 same:aB H H1
 lim:kvs.length+rest.length<=8
 ky:rD aQ kvs
inductive zY (vs:List V) (H:Hp) (Q:VK) (E:XK):Prop
 |mk {t:Addr}{o:Obj}{ws:List V}{aQ:List (Str×List Str)}{L:Str->List Str} (_:vs = [.ref t]) (_:H t=some (.cq o (.tup ws))) (_:eO H ws aQ) (_:pI aQ L) (_:∀d kvs H',H d=none->aB H H'->H' d=some (.dK kvs)->(∀p∈aQ,kc H' kvs L p.1)->(kvs.map (·.1)).Perm ((aQ.map (·.1)).map Sum.inr)->Q (.ref d) H'):zY vs H Q E
abbrev JA:List Str:= ["family","lines","waiting","ready","kind","parents"]
theorem rM:bF JA ["family"] (aI t8):=bV (by decide +kernel)
abbrev QD:Stmt:=cG (bH t8) 2
abbrev Gk:Expr:=iX (cG (vI QD) 0)
abbrev adX:Expr:=kG (OM Gk)
abbrev adY:Expr:=iX (cG (vI QD) 3)
theorem O8:cK JA (aI t8) ["pair","lines"] [none,some 1] (eg Gk):=gi (by decide +kernel)
theorem aco:cK ["pair","lines"] (relabel (eg Gk) env) ["parent","lines"] [none,some 1] (eg adX):=nest rfl (by decide +kernel) (by decide +kernel) rfl (by decide +kernel) (by decide +kernel)
theorem acp:(["parent","lines"]:List Str).Nodup:=by decide +kernel
theorem O9:cK JA (aI t8) ["pair","lines"] [none,some 1] (eg adY):=gi (by decide +kernel)
theorem Zn {fF:Addr}{fdF:FuncData} (F:aY K "lines_of" "lines_of" t8 f fd) (B:gV mg) (GF:dq P w K mg base aO 4 fF fdF ["lines","kind","parents"] AZ "line_from") :
  aS P w K mg base aO 5 f fd ["family"] zY:=by
 refine F.ok rM (fun vs H Q E h=>?_) (fun aH A outer s H vs Q E hr h=>?_)
 ·obtain⟨rfl,_⟩:=h;rfl
 ·obtain @⟨t,o,ws,aQ,L,rfl,ht,adZ,ok,q⟩:=h
  have hu:=hr.units;have bO:=iE hu;refine⟨_,aA (ba (i:=1) rM.nd rfl (Or.inr rfl) D7)
   (aA (ba (i:=2) rM.nd rfl (Or.inl rfl) (gF tw rfl B.list boot_list (ae (pv 0) ah)))
   (aA (vK iR (qQ (pv 2) (fun _=>rfl))
    (aA (tF rfl O8 rM.nd (i:=3) rfl rfl (gB (pv 2)) (fun s H fp=>⟨bp (i:=0) O8.nd rfl (Or.inl rfl),
      pj (pA (fZ (W3 K rfl rfl) rfl B.all boot_all (ae (gM rfl aco (Na K rfl (a6 (zJ K rfl) (pv 0) ay (fun _ _=>rfl))) (fun s H fp=>⟨bp (i:=0) acp rfl (Or.inl rfl),hJ,aaQ (pF bO (pv 0) (pv 1))⟩)) ah))),
      pv 0⟩))
    (aA (cf (pB (qQ (pv 3) (fun _=>rfl))) (aG (bz (pv 1))) cO)
    (aA (jR iR rfl (gB (pv 3)) (pD rfl (eY (bp (i:=4) rM.nd rfl (Or.inl rfl)) (eY (bp (i:=5) rM.nd rfl (Or.inl rfl)) lj)))
     (aG (lq bO (pv 1) (pv 4) (cQ GF hr (ae (pv 1) (ae (pv 4) (ae (pv 5) ah)))) rfl)))
    (aG (tF rfl O9 rM.nd (i:=2) rfl rfl (gB (pv 2)) (fun s H fp=>⟨bp (i:=0) O9.nd rfl (Or.inl rfl),
      pj (mj (Mv bO (a6 (zJ K rfl) (pv 0) ay (fun _ _=>rfl)) (pv 1))),pv 0⟩)))))))
   (aG (bz (pv 1))))),?_⟩
  intro d hd;have Sd:=ar (o:= .dK []) hd;refine⟨_,rfl,t,ws,rfl,.inr (.inl (.inr ⟨o,Sd _ _ ht⟩)),fun wa SW=>?_⟩;have Sw:=Sd.trans (ar (o:= .lst ws) SW);have nwd:d≠wa:=aq af SW;refine⟨fun m σ H1=>∃kvs rest wv wa,QC H aQ L t d m σ H1 kvs rest wv wa,⟨_,[],aQ,ws,wa,⟨none,none,none,rfl⟩,rfl,by rw[ag nwd];exact af,af,adZ.same Sw,fun _ h=>h,fun _ h=>.inr h,fun x h=>(by cases h),Sw,by have:=ok.aX;rw[sS];omega,⟨jl,fun _ h=>(by cases h)⟩⟩,?_⟩
  rintro m σ H1 ⟨kvs,rest,wv,wa,R⟩;obtain⟨v3,v4,v5,rfl⟩:=R.st;have yk:=R.fv.length;refine⟨_,rfl,_,.inl ⟨_,ak.of R.hw,rfl⟩,?_⟩;refine c7 (fun bY=>?_) (fun bY=>?_)
  ·refine⟨fun aK H'=>∃m',m' < m /\ ∃kvs rest wv wa,QC H aQ L t d m' aK H' kvs rest wv wa,fun _ _ z=>z,?_⟩
   refine⟨_,rfl,wa,rfl,⟨_,ak.of R.hw⟩,fun ra JB=>?_⟩;have ym:∀ {b:Addr}{u:HO},H b=some u->b≠d:=fun e=>aq e hd;have ndr:d≠ra:=aq R.hd JB;refine iS (xs:=wv) (fun i ys τ H3=>∃t0:Option V,τ = [t0,some (.ref d)]/\H3 ra=some (.lst ys)/\aB H1 H3/\eO H3 ys (ix (isDone kvs) (rest.take i))) ⟨none,rfl,af,ar JB,.nil⟩ (fun i ys τ H3 ⟨_,_,z1,z2,_⟩=>⟨z1,ak.of (z2 _ _ R.hw)⟩) ?_ ?_
   ·rintro i x ys τ H3 hx ⟨t0,rfl,h3,S3,F3⟩
    have aV:i < wv.length:=(cu.mp hx).1;obtain⟨p,hp,a,b,rfl,ha,hb⟩:=tV R.fv hx;have tk:rest.take (i+1)=rest.take i ++ [p]:=by rw[eX,hp];rfl
    have Cn:=R.sub p (kX hp);have cS:p.2.length<=20:=(ok.line p Cn).1.short p.2 (fH _ aW);have mV:=S3 _ _ ha;have Co:=S3 _ _ hb;refine⟨_,rfl,a,_,1,.ref b,rfl,rfl,aE.of mV,(show cZ [V.str p.1,V.ref b] ((1:Nat):Int)=some (.ref b) from gg rfl),?_⟩;refine⟨b,rfl,⟨_,aE.of Co⟩,fun c hc=>Zl Co (S3 _ _ R.hd) hc (by omega) ?_⟩
    have Sc:=ar (o:= .lst ((p.2.map (isDone kvs)).map V.bl)) hc;refine⟨c,_,rfl,ak.of af,_,rfl,?_⟩;refine c7 (fun BZ=>?_) (fun BZ=>?_)
    ·refine⟨_,rfl,Sc _ _ h3,?_,cw_next aV ⟨_,rfl,af,fun b o hb=>by rw[ag (aq hb JB)];exact Sc _ _ (S3 b o hb),?_⟩⟩
     ·have h1:=F3.length
      have h2:(ix (isDone kvs) (rest.take i)).length<=(rest.take i).length:=nJ _ _;have h3:=R.lim;rw[eJ]at h2;rw[aT];omega
     ·have e1:ix (isDone kvs) (rest.take (i+1))=ix (isDone kvs) (rest.take i) ++ [p]:=by
       rw[tk];unfold ix;rw[nK,zo (by exact BZ)];rfl
      rw[e1];refine eO.append (F3.keep fun b xs hb=>?_) ?_ ?_ (b:=b)
      ·rw[ag (ao hb h3 (by intro z;cases z))];exact Sc _ _ hb
      ·rw[ag (ao mV h3 (by intro z;cases z))];exact Sc _ _ mV
      ·rw[ag (ao Co h3 (by intro z;cases z))];exact Sc _ _ Co
    ·refine cw_next aV ⟨_,rfl,Sc _ _ h3,S3.trans Sc,?_⟩
     have e1:ix (isDone kvs) (rest.take (i+1))=ix (isDone kvs) (rest.take i):=by
      rw[tk];unfold ix;rw[nK,Dn (by exact BZ)];simp
     rw[e1];exact F3.same Sc
   ·rintro rv τ H3 ⟨t0,rfl,h3,S3,F3⟩
    rw[yk,eK]at F3;have lQ:=F3.length;have yn:=S3 _ _ R.hd;have SX:=S3 _ _ R.hw;have ie:eO H3 wv rest:=R.fv.same S3;have rJ:rest ≠ []:=fun z=>by
     rw[z]at yk;have:wv = []:=vq yk;rw[this]at bY;cases bY
    obtain⟨p0,yo,ad0⟩:=Zk ok R.sub R.all rJ;have Cp:p0∈ix (isDone kvs) rest:=MU.mpr ⟨yo,ad0⟩;generalize xJ:ix (isDone kvs) rest=ready at F3 lQ Cp;have ad1:(!rv.isEmpty)=true:=by
     cases rv with
     |nil =>
      have:ready = []:=vq lQ.symm;rw[this]at Cp;cases Cp
     |cons _ _=>rfl
    refine⟨_,rfl,_,.inl ⟨_,ak.of h3,rfl⟩,?_⟩;rw[ad1];refine⟨_,rfl,ra,rfl,⟨_,ak.of h3⟩,tL (xs:=rv) (fun i σ H4=>∃ (eM:List (Key×V)) (v4 v5:Option V),σ = [some (.ref t),some (.ref d),some (.ref wa),some (.ref ra),v4,v5]/\H4 d=some (.dK eM)/\eM.length<=kvs.length+i /\
     (∀b u,b≠d->H3 b=some u->H4 b=some u)/\(∀x,isDone eM x=true->kc H4 eM L x)/\(∀x,isDone kvs x=true->isDone eM x=true)/\(∀p∈ready.take i,isDone eM p.1=true)/\rD aQ eM)
     ⟨kvs,v4,v5,rfl,yn,aP _,fun _ _ _ e=>e,fun x hx=>(R.ln x hx).same S3,fun _ h=>h,fun p hp=>(by cases hp),R.ky⟩ (fun i σ H4 _ ⟨_,_,_,_,_,_,z,_⟩=>ak.of (z _ _ (aN ndr) h3)) ?_ ?_⟩
    ·rintro i x σ H4 hx ⟨eM,v4,v5,rfl,qj,jd,iq,Cq,qg,Cr,JC⟩
     have aV:i < rv.length:=(cu.mp hx).1;obtain⟨p,hp,a,b,rfl,ha,hb⟩:=tV F3 hx;have tk:ready.take (i+1)=ready.take i ++ [p]:=by rw[eX,hp];rfl
     have hpr:p∈ix (isDone kvs) rest:=by rw[xJ];exact kX hp
     obtain⟨Cn,ye⟩:=MU.mp hpr;obtain⟨yp,oo,sf,hL,qa⟩:=ok.line p (R.sub p Cn);have ha4:=iq _ _ (ao ha yn (by intro z;cases z)) ha
     have hb4:=iq _ _ (ao hb yn (by intro z;cases z)) hb
     refine⟨a,_,rfl,aE.of ha4,rfl,_,_,rfl,_,_,rfl,rfl,?_⟩;refine⟨_,rfl,_,rfl,_,rfl,AZ.mk rfl qj hb4 (fun x hx=>Cq x (qg x (ye x hx))) yp sf qa fun q5 H5 S5 h5=>?_⟩;refine⟨_,rfl,_,rfl,d,_,rfl,hZ.k (k:=Sum.inr p.1) (S5 _ _ qj) ?_,?_⟩
     ·have h1:=R.lim
      have h2:ready.length<=rest.length:=by rw[<-xJ];exact nJ _ _
      rw[aT];omega
     ·have nq:q5≠d:=ao h5 (S5 _ _ qj) (by intro z;cases z)
      refine⟨_,_,_,rfl,af,?_,fun b u nb e=>?_,fun x hx=>?_,fun x hx=>?_,fun y hy=>?_,JC.put (R.sub p Cn)⟩
      ·have:=tD eM (Sum.inr p.1) (V.ref q5);omega
      ·rw[ag nb];exact S5 _ _ (iq b u nb e)
      ·unfold kc
       rw[qS]
       by_cases e:x=p.1
       ·subst e
        refine⟨q5,by rw[ax rfl],?_⟩
        rw[ag nq,hL];exact h5
       ·have e2 : ¬ ((Sum.inr x:Key)=Sum.inr p.1):=fun z=>e (nj z)
        have di:isDone eM x=true:=by unfold isDone at hx ⊢;rw[qS,aj e2]at hx;exact hx
        obtain⟨a',ea,SY⟩:=Cq x di;refine⟨a',by rw[aj e2];exact ea,?_⟩
        rw[ag (ao SY qj (by intro z;cases z))];exact S5 _ _ SY
      ·unfold isDone;rw[qS]
       split
       ·rfl
       ·exact qg x hx
      ·unfold isDone;rw[qS]
       split
       ·rfl
       ·rename_i hn
        rw[tk]at hy;rcases ee.mp hy with z|z
        ·exact Cr _ z
        ·have:y=p:=by simpa using z
         exact absurd (by rw[this]) hn
    ·rintro σ H4 ⟨eM,v4,v5,rfl,qj,jd,iq,Cq,qg,Cr,JC⟩
     rw[lQ,eK]at Cr;have qq:eO H4 wv rest:=ie.keep fun b xs e=>iq _ _ (ao e yn (by intro z;cases z)) e
     have Ta:=iq _ _ (ao SX yn (by intro z;cases z)) SX
     have SH4:aB H H4:=fun b u e=>iq b u (ym e) (S3 _ _ (R.same b u e));refine⟨_,rfl,wa,rfl,⟨_,ak.of Ta⟩,fun wb JD=>?_⟩;have nwb:d≠wb:=aq qj JD;refine iS (xs:=wv) (fun i ys τ H5=>∃t0:Option V,τ = [t0,some (.ref d)]/\H5 wb=some (.lst ys)/\aB H4 H5/\eO H5 ys ((rest.take i).filter fun p=>!isDone eM p.1)) ⟨none,rfl,af,ar JD,.nil⟩ (fun i ys τ H5 ⟨_,_,z1,z2,_⟩=>⟨z1,ak.of (z2 _ _ Ta)⟩) ?_ ?_
     ·rintro i x ys τ H5 hx ⟨t0,rfl,h5,S5,F5⟩
      have aV:i < wv.length:=(cu.mp hx).1;obtain⟨p,hp,a,b,rfl,ha,hb⟩:=tV qq hx;have tk:rest.take (i+1)=rest.take i ++ [p]:=by rw[eX,hp];rfl
      have JE:=S5 _ _ ha;have Tb:=S5 _ _ hb;refine⟨_,rfl,a,_,0,.str p.1,rfl,rfl,aE.of JE,(show cZ [V.str p.1,V.ref b] ((0:Nat):Int)=some (.str p.1) from gg rfl),?_⟩;refine⟨_,rfl,d,_,rfl,cU.k (k:=Sum.inr p.1) (S5 _ _ qj),_,rfl,?_⟩;refine c7 (fun j9=>?_) (fun j9=>?_)
      ·refine⟨_,rfl,h5,?_,cw_next aV ⟨_,rfl,af,fun b o hb=>by rw[ag (aq hb JD)];exact S5 b o hb,?_⟩⟩
       ·have h1:=F5.length
        have h2:=nJ (fun p:Str×List Str=>!isDone eM p.1) (rest.take i);have h3:=R.lim;rw[eJ]at h2;rw[aT];omega
       ·rw[tk,nK,zo (by exact j9)]
        refine eO.append (F5.keep fun b xs hb=>?_) ?_ ?_ (b:=b)
        ·rw[ag (ao hb h5 (by intro z;cases z))];exact hb
        ·rw[ag (ao JE h5 (by intro z;cases z))];exact JE
        ·rw[ag (ao Tb h5 (by intro z;cases z))];exact Tb
      ·refine cw_next aV ⟨_,rfl,h5,S5,?_⟩
       rw[tk,nK,Dn (by exact j9),List.filter_nil,jM]
       exact F5
     ·rintro ys τ H5 ⟨t0,rfl,h5,S5,F5⟩
      rw[yk,eK]at F5;have less:=Yq (dn:=isDone kvs) (Cm:=isDone eM) (rest:=rest) (by rw[xJ];exact Cr)
      rw[xJ]at less;have hrp:0 < ready.length:=Vv Cp;refine⟨_,by rw[R.mm];omega,eM,rest.filter fun p=>!isDone eM p.1,ys,wb,⟨_,_,_,rfl⟩,rfl,S5 _ _ qj,h5,F5,fun p hp=>R.sub p (kz.mp hp).1,fun p hp=>?_,fun x hx=>(Cq x hx).same S5,SH4.trans S5,?_,?_⟩
      ·cases e:isDone eM p.1 with
       |true=>exact .inl rfl
       |false =>
        refine .inr ?_;rcases R.all p hp with z|z
        ·rw[qg _ z]at e;cases e
        ·exact kz.mpr ⟨z,by rw[e];rfl⟩
      ·have h1:=R.lim
       omega
      ·exact JC
  ·have hn:rest = []:=by
    cases wv with
    |nil=>exact vq yk.symm
    |cons _ _=>exact absurd rfl bY
   have dn:∀p∈aQ,isDone kvs p.1=true:=fun p hp=>by
    rcases R.all p hp with z|z
    ·exact z
    ·rw[hn]at z;cases z
   exact⟨_,rfl,q d kvs H1 hd R.same R.hd (fun p hp=>R.ln p.1 (dn p hp)) (R.ky.perm ok dn)⟩
def gv (H:Hp) (kvs:List (Key×V)) (L:Str->List Str) (x:Str):Prop:= ∃a,bo kvs (Sum.inr x)=some (.ref a)/\H a=some (.lst ((L x).map V.str))
theorem gv.same {kvs:List (Key×V)} (h:gv H kvs L x) (s:aB H H'):gv H' kvs L x:=let ⟨a,e,q⟩:=h;⟨a,e,s _ _ q⟩
theorem aau {kvs:List (Key×V)} (h:∀x∈ps,gv H kvs L x):∃g:Str->V,(∀x∈ps,bo kvs (Sum.inr x)=some (g x))/\jr (fun _=>True) H (ps.map g) (ps.map L):=by
 refine⟨fun x=>(bo kvs (Sum.inr x)).getD .aF,fun x hx=>?_,?_⟩
 ·obtain⟨a,e,_⟩:=h x hx;show _=some ((bo kvs (Sum.inr x)).getD V.aF);rw[e];rfl
 ·induction ps with
  |nil=>exact .nil
  |cons x ps ih =>
   obtain⟨a,e,q⟩:=h x aW;exact .cons ⟨a,by show(bo kvs (Sum.inr x)).getD V.aF=_;rw[e];rfl,trivial,q⟩ (ih fun y hy=>h y (bq _ hy))
theorem MX:∀ {m:Nat}{rows:List (List Str)}{o:List Str},cT m rows=some o->o.length<=m
 |0,rows,o,h=>by
  unfold cT at h
  first
   |(cases h;exact aP _)
   |(split at h <;> first|(cases h;exact aP _)|cases h)
 |m+1,rows,o,h=>by
  unfold cT at h;split at h
  ·cases e:iu rows with
   |none=>rw[e]at h;cases h
   |some n =>
    rw[e]at h;obtain⟨o',h',rfl⟩:=kB.mp h;have:=MX h';rw[d7];omega
  ·cases h;exact bf _
inductive xf (vs:List V) (H:Hp) (Q:VK) (E:XK):Prop
 |mk {d oa:Addr}{kvs:List (Key×V)}{L:Str->List Str}{k:Str}{own:List Str} (_:vs = [.ref d,.str k,.ref oa]) (_:H d=some (.dK kvs)) (_:H oa=some (.lst (own.map V.str))) (_:(∀x∈own,gv H kvs L x)) (_:Small (rowsOf L own)) (_:(∀r∈rowsOf L own,r.Nodup)) (_:(cT (total (rowsOf L own)) (rowsOf L own)=none -> ∀H',aB H H'->Q .aF H')) (_:(∀o,cT (total (rowsOf L own)) (rowsOf L own)=some o -> ∀p H',H p=none->aB H H'->H' p=some (.lst ((k::o).map V.str))->Q (.ref p) H')):xf vs H Q E
abbrev Tc:List Str:= ["_law_lines","_law_kind","_law_own","_law_found"]
theorem QE:bF Tc ["_law_lines","_law_kind","_law_own"] (aI wk):=bV (by decide +kernel)
abbrev eLL:Expr:=QA (kG (iX (cG (bH wk) 0)))
theorem QF:cK Tc (aI wk) ["_law_one","_law_lines"] [none,some 0] (eg eLL):=gi (by decide +kernel)
theorem acq {yj:FuncData} (F:aY K "_law_line" "_law_line" wk f fd) (B:gV mg) (FM:aY K "_law_merged" "_law_merged" mh fM yj) (bM:Binds K yj ["_law_rows"] []) (mM:mg "_law_merged" = some (.ref fM)) :
  aS P w K mg base aO 2 f fd ["_law_lines","_law_kind","_law_own"] xf:=by
 have GM:aS P w K mg base aO 1 fM yj ["_law_rows"] AX:=acm FM B;refine F.ok QE (fun vs H Q E h=>?_) (fun aH A outer s H vs Q E hr h=>?_)
 ·obtain⟨rfl,_⟩:=h;rfl
 ·obtain @⟨d,oa,kvs,L,k,own,rfl,hd,ho,hl,hS,gC,qn,qs⟩:=h
  have hu:=hr.units;have bO:=iE hu;refine⟨_,aA (ba (i:=3) QE.nd rfl (Or.inl rfl) (iT GM hr rfl mM FM.kp bM .nil eF (ae (cH v9 (gM rfl QF (gB (pv 2)) (fun s H fp=>⟨bp (i:=0) QF.nd rfl (Or.inl rfl),hJ,jP bO (pv 1) (pv 0) (fun _ _=>rfl)⟩)) (dQ (ae (gF tw rfl B.list boot_list (ae (pv 2) ah)) ah))) ah)))
   (aA (cf (bK pE (pv 3) iy (bQ _)) (aG (bz iy)) cO)
   (aG (bz (cH v9 (dQ (ae (pv 1) ah)) (pv 3))))),?_⟩
  obtain⟨g,hg,hR⟩:=aau hl;have cS:own.length<=20:=hS.short own (fH _ aW);refine⟨_,rfl,oa,rfl,⟨_,ak.of ho⟩,fun c hc=>Yp ho hd hg hc (by omega) ?_⟩
  have S1:=ar (o:= .lst (own.map g)) hc;refine⟨_,rfl,oa,_,rfl,.inl (ak.of (S1 _ _ ho)),fun c1 Td=>?_⟩;have S2:=S1.trans (ar (o:= .lst (own.map V.str)) Td);refine⟨gI,fun c2 gT=>?_⟩;have S3:=S2.trans (ar (o:= .lst [V.ref c1]) gT);have k1:upd (upd H c (.lst (own.map g))) c1 (.lst (own.map V.str)) c=some (.lst (own.map g)):=by rw[ag (aq af Td)];exact af
  refine⟨c,c2,_,_,rfl,rfl,by rw[ag (aq k1 gT)];exact k1,af,by rw[aJ,aT];show _+1<=_;omega,fun c3 sA=>?_⟩
  have S4:=S3.trans (ar (o:= .lst (own.map g ++ [V.ref c1])) sA);have k4:upd (upd (upd (upd H c (.lst (own.map g))) c1 (.lst (own.map V.str))) c2 (.lst [V.ref c1])) c3 (.lst (own.map g ++ [V.ref c1])) c1=some (.lst (own.map V.str)):=by
   have k2:upd (upd (upd H c (.lst (own.map g))) c1 (.lst (own.map V.str))) c2 (.lst [V.ref c1]) c1=some (.lst (own.map V.str)):=by rw[ag (aq af gT)];exact af
   rw[ag (aq k2 sA)];exact k2
  refine AX.mk rfl (rows:=rowsOf L own) af (DB (o6 hR fun a xs _ e=>⟨trivial,S4 _ _ e⟩) trivial k4) hS gC (fun e H5 S5=>?_) (fun o e p H5 hp S5 h5=>?_)
  ·exact⟨_,rfl,rfl,_,rfl,qn e H5 (S4.trans S5)⟩
  ·refine⟨_,rfl,rfl,_,rfl,?_⟩
   refine⟨_,rfl,gI,fun c5 Te=>?_⟩;have S6:=S5.trans (ar (o:= .lst [V.str k]) Te);have hz:=(MX e);have ht:=zu hS.short;have hfw:=hS.aX;refine⟨_,rfl,c5,p,_,_,rfl,rfl,af,by rw[ag (aq h5 Te)];exact h5,by rw[aJ,aT];show 1+_<=_;omega,fun c6 Tf=>?_⟩
   exact qs o e c6 _ (S4.free (S6.free Tf)) (S4.trans (S6.trans (ar Tf))) af
theorem L8 {α:Type}:∀ (l:List α) (k:Nat) (h:k < l.length),(l[k]::l.eraseIdx k).Perm l
 |[],k,h=>absurd h (zm _)
 |x::l,0,_=>qL _
 |x::l,k+1,h=>(List.Perm.swap _ _ _).trans ((L8 l k (Lj h)).cons x)
theorem MY {α β:Type} (f:α->β):∀ (l:List α) (k:Nat),(l.map f).eraseIdx k=(l.eraseIdx k).map f
 |[],_=>rfl
 |_::_,0=>rfl
 |x::l,k+1=>eU (f x :: ·) (MY f l k)
theorem boot_min:bootBuiltins "min" = some (.builtin "min"):=by decide +kernel
theorem acr {d:Int} (h0:0<=d) (h1:d < 7):∃v:Int,cZ [V.int 0,.int 1,.int 1,.int 2,.int 2,.int 3,.int 4] d=some (.int v)/\0<=v/\v<=4:=by
 obtain⟨n,rfl⟩:=Lv h0
 match n,(show n < 7 by omega) with
 |0,_=>exact⟨0,gg rfl,by decide,by decide⟩
 |1,_=>exact⟨1,gg rfl,by decide,by decide⟩
 |2,_=>exact⟨1,gg rfl,by decide,by decide⟩
 |3,_=>exact⟨2,gg rfl,by decide,by decide⟩
 |4,_=>exact⟨2,gg rfl,by decide,by decide⟩
 |5,_=>exact⟨3,gg rfl,by decide,by decide⟩
 |6,_=>exact⟨4,gg rfl,by decide,by decide⟩
theorem two_at {d a b:Int} (h0:0<=d) (h1:d < 2) (ha:0<=a/\a < m) (hb:0<=b/\b < m):∃v:Int,cZ [V.int a,.int b] d=some (.int v)/\0<=v/\v < m:=by
 obtain⟨n,rfl⟩:=Lv h0
 match n,(show n < 2 by omega) with
 |0,_=>exact⟨a,gg rfl,ha⟩
 |1,_=>exact⟨b,gg rfl,hb⟩
inductive AD (vs:List V) (H:Hp) (Q:VK) (E:XK):Prop
 |mk {p n:Addr}{ys:List Str} (_:vs = [.ref p,.ref n]) (_:iz p H) (_:p≠n) (_:H n=some (.lst (ys.map V.str))) (_:ys.length<=20) (_:∀ (l:Addr) (own rest:List Str) (H':Hp),H l=none->(own++rest).Perm ys->own.length<=4->bU p H H'->H' l=some (.lst (own.map V.str))->Q (.ref l) H'):AD vs H Q E
abbrev ad2:List Str:= ["_law_pot_here","_law_made","_law_left","_law_own","_law_turn","_law_at"]
theorem wM:bF ad2 ["_law_pot_here","_law_made"] (aI DW):=bV (by decide +kernel)
theorem abq {su:FuncData} (F:aY K "_law_parents" "_law_parents" DW f fd) (B:gV mg) (FD:aY K "_law_digit" "_law_digit" wj fD su) (bD:Binds K su ["_law_pot_here","_law_many"] []) (mD:mg "_law_digit" = some (.ref fD)) :
  aS P w K mg base aO 2 f fd ["_law_pot_here","_law_made"] AD:=by
 have GD:aS P w K mg base aO 1 fD su ["_law_pot_here","_law_many"] qW:=Ee FD;refine F.ok wM (fun vs H Q E h=>?_) (fun aH A outer s H vs Q E hr h=>?_)
 ·obtain⟨rfl,_⟩:=h;rfl
 ·obtain @⟨p,n,ys,rfl,hp,hpn,hn,hlen,q⟩:=h
  have bZ:bb 1 _:=hr;refine⟨_,aA (ba (i:=2) wM.nd rfl (Or.inl rfl) (gF tw rfl B.list boot_list (ae (pv 1) ah)))
   (aA (ba (i:=3) wM.nd rfl (Or.inl rfl) (dQ ah))
   (aA (jR iR rfl (qO rfl B.range (ae (fZ (XN rfl) rfl B.min boot_min (ae (fZ tq rfl B.len vz (ae (pv 2) ah))
     (ae (a6 fJ (dQ (ae ay (ae ay (ae ay (ae ay (ae ay (ae ay (ae ay ah)))))))) (iT GD bZ rfl mD FD.kp bD .nil eF (ae (pv 0) (ae ay ah))) (fun _ _=>rfl)) ah))) ah)) (bp (i:=4) wM.nd rfl (Or.inl rfl))
    (aA (ba (i:=5) wM.nd rfl (Or.inl rfl) (a6 fJ (dQ (ae (iT GD bZ rfl mD FD.kp bD .nil eF (ae (pv 0) (ae (fZ tq rfl B.len vz (ae (pv 2) ah)) ah)))
      (ae (cH Oz (fZ tq rfl B.len vz (ae (pv 2) ah)) ay) ah))) (iT GD bZ rfl mD FD.kp bD .nil eF (ae (pv 0) (ae ay ah))) (fun _ _=>rfl)))
    (aG (gG (jq k9 vx vy o8 (pv 3)
     (ae (jq k9 V1 V2 M7 (pv 2) (ae (pv 5) ah)) ah))))))
   (aG (bz (pv 3))))),?_⟩
  refine⟨_,rfl,n,_,rfl,.inl (ak.of hn),fun la gY=>?_⟩;refine⟨bf _,fun fa kS=>?_⟩;have qr:p≠la:=hp.ne gY;have yq:la≠fa:=aq af kS;have uy:H fa=none:=(ar gY).free kS;have u6:p≠fa:=hp.ne uy;have P0:bU p H (upd (upd H la (.lst (ys.map V.str))) fa (.lst [])):=((bU.refl hp).new gY).new kS;have rK:(upd (upd H la (.lst (ys.map V.str))) fa (.lst [])) la=some (.lst (ys.map V.str)):=by rw[ag yq];exact af
  have Gm:(upd (upd H la (.lst (ys.map V.str))) fa (.lst [])) fa=some (.lst []):=af;generalize upd (upd H la (.lst (ys.map V.str))) fa (.lst [])=H0 at P0 rK Gm ⊢;refine⟨_,rfl,la,_,rfl,.inl (ak.of rK),?_⟩;refine⟨by show 7<=sizeLine;rw[aT];decide,fun c hc=>?_⟩
  have Pc:=P0.new (o:= .lst [V.int 0,.int 1,.int 1,.int 2,.int 2,.int 3,.int 4]) hc;refine⟨_,rfl,kC (p:=p) (m:=7) Pc.ok (by decide) (by decide) fun d H1 d0 d1 Cs=>?_⟩
  have npc:p≠c:=P0.ok.ne hc;obtain⟨v,hv,v0,v4⟩:=acr d0 d1;refine⟨c,_,d,.int v,rfl,rfl,ak.of (Cs.kp _ _ af (aN npc)),hv,?_⟩;have P1:=Pc.trans Cs;have xg:H1 la=some (.lst (ys.map V.str)):=Cs.kp _ _ (by rw[ag (aq rK hc)];exact rK) (aN qr)
  have xh:H1 fa=some (.lst []):=Cs.kp _ _ (by rw[ag (aq Gm hc)];exact Gm) (aN u6)
  refine⟨_,v,rfl,?_⟩;rw[aJ];obtain⟨N,hN,hN4,hNl⟩:∃N:Nat,(if v < (ys.length:Int) then v else (ys.length:Int))=N/\N<=4/\N<=ys.length:=by
   split
   ·exact⟨v.toNat,by omega,by omega,by omega⟩
   ·exact⟨ys.length,rfl,by omega,aP _⟩
  rw[hN];refine⟨(N:Int),rfl,by omega,by omega,vE (fun i σ H1=>∃ (zs ls:List Str) (v4 v5:Option V),σ = [some (.ref p),some (.ref n),some (.ref la),some (.ref fa),v4,v5]/\zs.length=i/\(zs++ls).Perm ys/\bU p H H1/\H1 la=some (.lst (ls.map V.str))/\H1 fa=some (.lst (zs.map V.str)))
   ⟨[],ys,none,none,rfl,rfl,qL _,P1,xg,xh⟩ ?_ ?_⟩
  ·rintro i σ H1 hi ⟨zs,ls,v4,v5,rfl,hz,hP,pa,xg,xh⟩
   have acs:=hP.length_eq;rw[dz]at acs;have Ji:i < N:=by simpa using hi
   have Qr:0 < ls.length:=by omega
   refine⟨_,rfl,_,rfl,la,_,rfl,.inl (ak.of xg),?_⟩;refine kC (p:=p) pa.ok (by rw[aJ];omega) (by rw[aJ];omega) fun d H2 d0 d1 pb=>?_
   have Gn:=pb.kp _ _ xg (aN qr);have QG:=pb.kp _ _ xh (aN u6);rw[aJ]at d1;refine⟨_,rfl,la,_,rfl,.inl (ak.of Gn),_,1,rfl,rfl,?_⟩;rw[aJ];refine⟨cJ,fun c2 gT=>?_⟩;have Tg:=(pa.trans pb).new (o:= .lst [V.int d,.int ((ls.length:Int) - 1)]) gT;have ad3:p≠c2:=pb.ok.ne gT;refine⟨_,rfl,kC (p:=p) (m:=2) Tg.ok (by decide) (by decide) fun e H3 e0 e1 pe=>?_⟩
   obtain⟨v,hv,v0,v1⟩:=two_at (a:=d) (b:=(ls.length:Int) - 1) (m:=(ls.length:Int)) e0 e1 ⟨d0,d1⟩ ⟨by omega,by omega⟩
   have pN:H3 la=some (.lst (ls.map V.str)):=pe.kp _ _ (by rw[ag (aq Gn gT)];exact Gn) (aN qr)
   have uz:H3 fa=some (.lst (zs.map V.str)):=pe.kp _ _ (by rw[ag (aq QG gT)];exact QG) (aN u6)
   have P3:=Tg.trans pe;refine⟨c2,_,e,.int v,rfl,rfl,ak.of (pe.kp _ _ af (aN ad3)),hv,?_⟩;have hd:v.toNat < ls.length:=by omega
   refine⟨_,rfl,.inl ⟨rfl,_,ak.of uz⟩,_,rfl,.inl ⟨rfl,_,ak.of pN⟩,_,rfl,?_⟩;refine⟨la,_,v,v.toNat,.str ls[v.toNat],rfl,rfl,pN,by omega,by omega,KY v0 (by rw[aJ];exact v1),by rw[jk,b4 hd];rfl,?_⟩
   have ad4:(upd H3 la (.lst ((ls.map V.str).eraseIdx v.toNat))) fa=some (.lst (zs.map V.str)):=by rw[ag (aN yq)];exact uz
   refine⟨fa,_,_,rfl,rfl,ad4,by rw[aJ,aT];omega,?_⟩
   refine⟨zs ++ [ls[v.toNat]],ls.eraseIdx v.toNat,_,_,rfl,by rw[dz];simp[hz],?_,(P3.write gY qr).write uy u6,?_,?_⟩
   ·refine List.Perm.trans ?_ hP
    rw[KZ];exact anR zs (L8 ls _ hd)
   ·rw[ag yq,af,MY]
   ·rw[af,bB];rfl
  ·rintro σ H1 ⟨zs,ls,v4,v5,rfl,hz,hP,pa,xg,xh⟩
   have uV:zs.length=N:=by simpa using hz
   exact⟨_,rfl,q fa zs ls H1 uy hP (by omega) pa xh⟩
end gu
namespace gu
open PySem L2 HT
def kept (rows:List (List Str)) (o:List Str):Bool:=rows.all fun r=>decide ((o.filter fun n=>decide (n∈r))=r)
theorem DO {all:List (List Str)}{n:Str}:∀ {rest:List (List Str)},lg all rest=some n->eZ 0 all n=none /\ ∃ (i:Nat) (r:List Str),rest[i]? = some r/\r.head? = some n /\ ∀ (j:Nat) (q:List Str) (y:Str),rest[j]? = some q->q.head? = some y->eZ 0 all y=none->i<=j
 |[],h=>by cases h
 |[]::rest,h=>by
  obtain⟨h1,i,r,e1,e2,e3⟩:=DO (rest:=rest) h;refine⟨h1,i+1,r,by simpa using e1,e2,fun j q y hj hq hy=>?_⟩
  cases j with
  |zero =>
   obtain rfl : []=q:=by simpa using hj
   simp at hq
  |succ j=>have:=e3 j q y (by simpa using hj) hq hy;omega
 |(x::t)::rest,h=>by
  have h:(if (eZ 0 all x).isNone then some x else lg all rest)=some n:=h
  by_cases c:(eZ 0 all x).isNone=true
  ·rw[ax c]at h
   cases h
   exact⟨by simpa using c,0,_,rfl,rfl,fun _ _ _ _ _ _=>bf _⟩
  ·rw[aj c]at h
   obtain⟨h1,i,r,e1,e2,e3⟩:=DO (rest:=rest) h;refine⟨h1,i+1,r,by simpa using e1,e2,fun j q y hj hq hy=>?_⟩
   cases j with
   |zero =>
    obtain rfl:x::t=q:=by simpa using hj
    obtain rfl:x=y:=by simpa using hq
    exact absurd (by rw[hy];rfl) c
   |succ j=>have:=e3 j q y (by simpa using hj) hq hy;omega
def aav (rest:List (List Str)) (q:List Str):Prop:=q.Nodup /\ ∀x,x∈q ↔ ∃r∈rest,x∈r
theorem Eg {q:List Str}:kept rest q=true ↔ ∀r∈rest,(q.filter fun n=>decide (n∈r))=r:=by
 unfold kept;rw[zj];simp
theorem LN {n:Str}:(∃r∈L2.without n rest,x∈r) ↔ x≠n /\ ∃r∈rest,x∈r:=by
 constructor
 ·rintro⟨r,hr,hx⟩
  obtain⟨q,hq,rfl⟩:=br.mp hr;have:=kz.mp hx;exact⟨by simpa using this.2,q,hq,this.1⟩
 ·rintro⟨h,q,hq,hx⟩
  exact⟨_,br.mpr ⟨q,hq,rfl⟩,kz.mpr ⟨hx,by simpa using h⟩⟩
theorem aaw:(rest.any fun r=>!r.isEmpty)=true ↔ ∃r∈rest,∃x,x∈r:=by
 rw[zk]
 constructor
 ·rintro⟨r,hr,e⟩
  cases r with
  |nil=>simp at e
  |cons x t=>exact⟨_,hr,x,aW⟩
 ·rintro⟨r,hr,x,hx⟩
  refine⟨r,hr,?_⟩;cases r with
  |nil=>simp at hx
  |cons y t=>rfl
theorem sound:∀ (m:Nat) (rest:List (List Str)),total rest=m->(∀r∈rest,r.Nodup) -> ∀o,cT (total rest) rest=some o->aav rest o/\kept rest o=true:=by
 intro m
 induction m using Nat.strongRecOn with
 |_ m ih =>
  intro rest hm gC o ho;cases hA:rest.any fun r=>!r.isEmpty with
  |false =>
   rw[DJ hA]at ho;cases ho
   have emp:∀r∈rest,∀x,x ∉ r:=fun r hr x hx=>by
    have:=aaw.mpr ⟨r,hr,x,hx⟩;rw[hA]at this;cases this
   refine⟨⟨jl,fun x=>⟨fun h=>by simp at h,fun⟨r,hr,hx⟩=>absurd hx (emp r hr x)⟩⟩,Eg.mpr fun r hr=>?_⟩
   cases r with
   |nil=>rfl
   |cons y t=>exact absurd aW (emp _ hr y)
  |true =>
   cases e:iu rest with
   |none=>rw[DK hA e]at ho;cases ho
   |some n =>
    rw[DL hA e]at ho;obtain⟨o',eQ,rfl⟩:=kB.mp ho;have lt:=sV (tJ e);obtain⟨⟨h1,h2⟩,h3⟩:=ih _ (by omega) (L2.without n rest) rfl (L6 gC) o' eQ
    rw[Eg]at h3;have gq:n ∉ o':=fun z=>((LN.mp ((h2 n).mp z)).1 rfl);obtain⟨wx,_⟩:=DO e;rw[zG]at wx;refine⟨⟨g8.mpr ⟨gq,h1⟩,fun x=>?_⟩,Eg.mpr fun r hr=>?_⟩
    ·rw[bj,h2,LN]
     constructor
     ·rintro(rfl|h)
      ·exact tJ e
      ·exact h.2
     ·intro h
      by_cases z:x=n
      ·exact .inl z
      ·exact .inr ⟨z,h⟩
    ·have ig:=h3 _ (br.mpr ⟨r,hr,rfl⟩)
     have same:(o'.filter fun y=>decide (y∈r))=o'.filter fun y=>decide (y∈r.filter fun y=>!decide (y=n)):=by
      apply List.filter_congr
      intro y hy;have:y≠n:=fun z=>gq (z ▸ hy);simp[this]
     by_cases hn:n∈r
     ·have hh:=wx r hr hn
      cases r with
      |nil=>simp at hn
      |cons z t =>
       obtain rfl:z=n:=by simpa using hh
       have ht:z ∉ t:=(g8.mp (gC _ hr)).1;have et:((z::t).filter fun y=>!decide (y=z))=t:=by
        rw[Dn (by simp)]
        exact aog.mpr fun y hy=>by
         have:y≠z:=fun w=>ht (w ▸ hy)
         simpa using this
       rw[zo (by simp),same,ig,et]
     ·have er:(r.filter fun y=>!decide (y=n))=r:=aog.mpr fun y hy=>by
       have:y≠n:=fun w=>hn (w ▸ hy)
       simpa using this
      rw[Dn (by simpa using hn),same,ig,er]
end gu
namespace gu
open PySem L2 PySem.W HT
theorem len_sub {a b:List Str} (nd:a.Nodup) (h:∀x∈a,x∈b):a.length<=b.length:=abm nd h
structure Fm (done:List Str) (L Ps:Str->List Str):Prop where
 ps:∀x∈done,(Ps x).Nodup/\(Ps x).length<=4 /\ ∀y∈Ps x,y∈done
 ln:∀x∈done,∃o,cT (total (rowsOf L (Ps x))) (rowsOf L (Ps x))=some o/\L x=x::o
 ld:∀x∈done,(L x).Nodup /\ ∀y∈L x,y∈done
theorem L9 {own:List Str}:r∈rowsOf L own ↔ (∃y∈own,r=L y)\/r=own:=by
 unfold rowsOf;rw[ee,br,dH]
 constructor
 ·rintro(⟨y,h,rfl⟩|h)
  ·exact .inl ⟨y,h,rfl⟩
  ·exact .inr h
 ·rintro(⟨y,h,rfl⟩|h)
  ·exact .inl ⟨y,h,rfl⟩
  ·exact .inr h
theorem Fm.ue {done:List Str} (F:Fm done L Ps) {own:List Str} (nd:own.Nodup) (sub:∀y∈own,y∈done):∀r∈rowsOf L own,r.Nodup /\ ∀y∈r,y∈done:=fun r hr=>by
 rcases L9.mp hr with⟨y,hy,rfl⟩|rfl
 ·exact F.ld y (sub y hy)
 ·exact⟨nd,sub⟩
theorem Fm.small {done:List Str} (F:Fm done L Ps) (hk:∀x∈done,Nm x) (h8:done.length<=8) {own:List Str} (nd:own.Nodup) (h4:own.length<=4) (sub:∀y∈own,y∈done):Small (rowsOf L own):=by
 refine⟨?_,fun r hr=>?_,fun r hr y hy=>?_⟩
 ·unfold rowsOf;rw[dz,aJ,sR];omega
 ·obtain⟨h1,h2⟩:=F.ue nd sub r hr
  have:=len_sub h1 h2;omega
 ·exact hk y ((F.ue nd sub r hr).2 y hy)
theorem Fm.order {done:List Str} (F:Fm done L Ps) {own o:List Str} (nd:own.Nodup) (sub:∀y∈own,y∈done) (hm:cT (total (rowsOf L own)) (rowsOf L own)=some o):o.Nodup/\(∀y∈o,y∈done) /\ ∀r∈rowsOf L own,∀y∈r,y∈o:=by
 obtain⟨⟨h1,h2⟩,_⟩:=sound _ _ rfl (fun r hr=>(F.ue nd sub r hr).1) o hm;refine⟨h1,fun y hy=>?_,fun r hr y hy=>(h2 y).mpr ⟨r,hr,hy⟩⟩;obtain⟨r,hr,h⟩:=(h2 y).mp hy;exact(F.ue nd sub r hr).2 y h
theorem XA {L':Str->List Str}{own:List Str} (h:∀y∈own,L' y=L y):rowsOf L' own=rowsOf L own:=by
 unfold rowsOf;rw[VO h]
theorem Fm.add {done:List Str} (F:Fm done L Ps) {k:Str}{own o:List Str} (hk:k ∉ done) (nd:own.Nodup) (h4:own.length<=4) (sub:∀y∈own,y∈done) (hm:cT (total (rowsOf L own)) (rowsOf L own)=some o) :
  Fm (done ++ [k]) (fun x=>if x=k then k::o else L x) (fun x=>if x=k then own else Ps x):=by
 have nk:∀ {y},y∈done->y≠k:=fun h z=>hk (z ▸ h);have ext:∀ {ps:List Str},(∀y∈ps,y∈done)->rowsOf (fun x=>if x=k then k::o else L x) ps=rowsOf L ps:=fun h=>XA fun y hy=>aj (nk (h y hy));obtain⟨o1,o2,_⟩:=F.order nd sub hm;refine⟨fun x hx=>?_,fun x hx=>?_,fun x hx=>?_⟩
 ·by_cases e:x=k
  ·rw[ax e];exact⟨nd,h4,fun y hy=>nu _ (sub y hy)⟩
  ·rw[aj e]
   obtain⟨a,b,c⟩:=F.ps x (by rcases ee.mp hx with z|z;exact z;exact absurd (by simpa using z) e)
   exact⟨a,b,fun y hy=>nu _ (c y hy)⟩
 ·by_cases e:x=k
  ·refine⟨o,?_,by rw[ax e,e]⟩
   rw[ax e,ext sub];exact hm
  ·have di:x∈done:=by rcases ee.mp hx with z|z;exact z;exact absurd (by simpa using z) e
   obtain⟨o',h1,h2⟩:=F.ln x di;refine⟨o',?_,by rw[aj e];exact h2⟩
   rw[aj e,ext (F.ps x di).2.2];exact h1
 ·by_cases e:x=k
  ·rw[ax e]
   refine⟨g8.mpr ⟨fun z=>hk (o2 k z),o1⟩,fun y hy=>?_⟩;rcases bj.mp hy with z|z
   ·rw[z];exact fH _ aW
   ·exact nu _ (o2 y z)
  ·rw[aj e]
   have di:x∈done:=by rcases ee.mp hx with z|z;exact z;exact absurd (by simpa using z) e
   obtain⟨a,b⟩:=F.ld x di;exact⟨a,fun y hy=>nu _ (b y hy)⟩
def jT (Ps:Str->List Str) (ks:List Str):List (Str×List Str):=ks.map fun x=>(x,Ps x)
theorem Ma (Ps:Str->List Str) (ks:List Str):(jT Ps ks).map (·.1)=ks:=by
 unfold jT;rw[vw];exact List.map_id' _
theorem Fm.acu (F:Fm ks L Ps) (nd:ks.Nodup) (hk:∀x∈ks,Nm x) (h8:ks.length<=8):pI (jT Ps ks) L:=by
 have mem:∀ {p:Str×List Str},p∈jT Ps ks->p.1∈ks/\p.2=Ps p.1:=fun {p} hp=>by
  obtain⟨x,hx,rfl⟩:=br.mp hp;exact⟨hx,rfl⟩
 refine⟨by rw[Ma];exact nd,by unfold jT;rw[aJ];exact h8,fun p hp=>hk _ (mem hp).1,fun p hp x hx=>?_,⟨fun x=>(L x).length,fun p hp x hx=>?_⟩,fun p hp=>?_⟩
 ·obtain⟨h1,h2⟩:=mem hp
  rw[h2]at hx;exact⟨(x,Ps x),br.mpr ⟨x,(F.ps _ h1).2.2 x hx,rfl⟩,rfl⟩
 ·obtain⟨h1,h2⟩:=mem hp
  rw[h2]at hx;obtain⟨o,hm,hL⟩:=F.ln _ h1;obtain⟨n1,_,n3⟩:=F.ps _ h1;obtain⟨_,_,h5⟩:=F.order n1 n3 hm;have:=len_sub (F.ld x (n3 x hx)).1 fun y hy=>h5 (L x) (L9.mpr (.inl ⟨x,hx,rfl⟩)) y hy;show(L x).length < (L p.1).length;rw[hL,d7];omega
 ·obtain⟨h1,h2⟩:=mem hp
  rw[h2];obtain⟨o,hm,hL⟩:=F.ln _ h1;obtain⟨n1,n2,n3⟩:=F.ps _ h1;obtain⟨h3,h4,_⟩:=F.order n1 n3 hm;exact⟨F.small hk h8 n1 n2 n3,o,hm,hL,by have:=len_sub h3 h4;omega⟩
theorem Zo (xs:List Str):jW (xs.map V.str) none (some (-1))=xs.dropLast.map V.str:=by
 unfold jW;have e1:HT.bc (xs.map V.str).length 0 none=0:=rfl;have e2:HT.bc (xs.map V.str).length (xs.map V.str).length (some (-1))=xs.length - 1:=by
  rw[aJ];unfold HT.bc;simp;omega
 rw[e1,e2,Ld,Nat.sub_zero,<-List.map_take,List.dropLast_eq_take]
theorem pq {xs:List Str} (h:iz p H) (e:H a=some (.lst (xs.map V.str))):a≠p:=by
 rintro rfl;obtain⟨x,y,e2,_⟩:=h;rw[e]at e2;have e3:xs.map V.str = [.int x,.int y]:=HO.lst.inj (gA e2);cases xs with
 |nil=>cases e3
 |cons z t=>cases e3
theorem gv.Ti {kvs:List (Key×V)} (h:gv H kvs L x) (ok:iz p H) (s:bU p H H'):gv H' kvs L x:=let ⟨a,e,q⟩:=h;⟨a,e,s.kp _ _ q (pq ok q)⟩
theorem gv.write {kvs ad5:List (Key×V)}{u:HO} (h:gv H kvs L x) (hd:H d=some (.dK ad5)) (e:H'=upd H d u):gv H' kvs L x:=let ⟨a,e1,q⟩:=h;⟨a,e1,by rw[e,ag (ao q hd (by intro z;cases z))];exact q⟩
theorem Og {kvs:List (Key×V)} (ok:iz p H) (s:bU p H H') (e:H d=some (.dK kvs)):H' d=some (.dK kvs):=by
 obtain⟨x,y,ep,_⟩:=ok;exact s.kp _ _ e (ao e ep (by intro z;cases z))
theorem nM (h:iz p H) (s:aB H H'):bU p H H':=by
 obtain⟨x,y,e,r⟩:=h;exact⟨⟨x,y,s _ _ e,r⟩,fun b o e _=>s b o e⟩
theorem Oh {kvs:List (Key×V)}{k:Str}{l:List Str} (hd:H d=some (.dK kvs)) (hl:H a=some (.lst (l.map V.str))) (h:x≠k->gv H kvs L x) :
  gv (upd H d (.dK (putK kvs (Sum.inr k) (.ref a)))) (putK kvs (Sum.inr k) (.ref a)) (fun x=>if x=k then l else L x) x:=by
 unfold gv;rw[qS]
 by_cases e:x=k
 ·subst e
  refine⟨a,by rw[ax rfl],?_⟩
  rw[ag (ao hl hd (by intro z;cases z))];show H a=some (.lst ((if x=x then l else L x).map V.str));rw[ax rfl];exact hl
 ·obtain⟨b,e1,e2⟩:=h e
  refine⟨b,by rw[aj (fun z=>e (nj z))];exact e1,?_⟩
  rw[ag (ao e2 hd (by intro z;cases z))];show H b=some (.lst ((if x=k then l else L x).map V.str));rw[aj e];exact e2
theorem Nz {kvs:List (Key×V)}{done:List Str}{k:Str} (h:kvs.map (·.1)=done.map Sum.inr) (hk:k ∉ done):(putK kvs (Sum.inr k) v).map (·.1)=(done ++ [k]).map Sum.inr:=by
 have hv:bo kvs (Sum.inr k)=none:=by
  have:(bo kvs (Sum.inr k)).isSome=false:=by
   rw[<-tP,KS];intro kv lM hd;have e:kv.1=Sum.inr k:=iQ hd;have:kv.1∈kvs.map (·.1):=br.mpr ⟨kv,lM,rfl⟩;rw[h,e]at this;obtain⟨y,hy,ey⟩:=br.mp this;exact hk (nj ey ▸ hy)
  cases e:bo kvs (Sum.inr k) with
  |none=>rfl
  |some _=>rw[e]at this;cases this
 rw[qT _ hv,bB,bB,h];rfl
abbrev QH:List Str:= ["_law_pot_here","_law_kinds","_law_lines","_law_parents_here","_law_kind","_law_own","_law_turn","_law_family_here"]
theorem pJ:bF QH ["_law_pot_here","_law_kinds"] (aI vR):=bV (by decide +kernel)
abbrev ad6:Expr:=kG (kG (iX (cG (bH vR) 2)))
theorem eO.keyed (h:eO H vs aQ):∃kvs,rg H 1 vs kvs/\kvs.map (·.1)=(aQ.map (·.1)).map fun x=>[x]:=by
 induction h with
 |nil=>exact⟨[],.nil,rfl⟩
 |@cons _ p _ _ h _ ih =>
  obtain⟨a,b,e,q,r⟩:=h;obtain⟨kvs,h1,h2⟩:=ih;exact⟨([p.1],[.ref b])::kvs,.cons ⟨a,e,q,rfl⟩ h1,by rw[fX,h2];rfl⟩
structure ad7 (p:Addr) (H:Hp) (ks:List Str) (r t d1:Addr) (o:Obj) (ws:List V) (dc:List (Key×V)) (L Ps:Str->List Str) (aQ:List (Str×List Str)) (H':Hp):Prop where
 hr:H' r=some (.tup [.ref t,.ref d1])
 ht:H' t=some (.cq o (.tup ws))
 od:o.dict=none
 fv:eO H' ws aQ
 pm:aQ.Perm (jT Ps ks)
 fm:Fm ks L Ps
 h1:H' d1=some (.dK dc)
 k1:dc.map (·.1)=ks.map Sum.inr
 l1:∀x∈ks,gv H' dc L x
 pa:bU p H H'
 n1:H d1=none
inductive A0 (vs:List V) (H:Hp) (Q:VK) (E:XK):Prop
 |mk {p n:Addr}{ks:List Str} (_:vs = [.ref p,.ref n]) (_:iz p H) (_:H n=some (.lst (ks.map V.str))) (_:ks.Nodup) (_:(∀x∈ks,Nm x)) (_:ks.length<=8) (_:∀r t d1 o ws dc L Ps aQ H',ad7 p H ks r t d1 o ws dc L Ps aQ H'->Q (.ref r) H'):A0 vs H Q E
theorem Pa:cK QH (aI vR) ["_law_kind","_law_parents_here"] [none,some 3] (eg ad6):=gi (by decide +kernel)
theorem acv {fP:Addr}{dP:FuncData} (F:aY K "_law_family" "_law_family" vR f fd) (B:gV mg) (B2:pO mg)
  (GP:aS P w K mg base aO 2 fP dP ["_law_pot_here","_law_made"] AD) (kP:keepIn K (.ref fP)=true) (bP:Binds K dP ["_law_pot_here","_law_made"] []) (mP:mg "_law_parents" = some (.ref fP))
  (GL:aS P w K mg base aO 2 fL dL ["_law_lines","_law_kind","_law_own"] xf) (kL:keepIn K (.ref fL)=true) (bL:Binds K dL ["_law_lines","_law_kind","_law_own"] []) (mL:mg "_law_line" = some (.ref fL)) :
  aS P w K mg base aO 3 f fd ["_law_pot_here","_law_kinds"] A0:=by
 refine F.ok pJ (fun vs H Q E h=>?_) (fun aH A outer s H vs Q E hr h=>?_)
 ·obtain⟨rfl,_⟩:=h;rfl
 ·obtain @⟨p,n,ks,rfl,hp,hn,knd,jC,k8,q⟩:=h
  have hu:=hr.units;have bO:=Nat.lt_of_le_of_lt (Nat.add_le_add_left (show 1<=64 by decide) _) hu
  refine⟨_,aA (qY (bJ (ae D7 (ae D7 ah))) (pD rfl (eY (bp (i:=2) pJ.nd rfl (Or.inl rfl)) (eY (bp (i:=3) pJ.nd rfl (Or.inr rfl)) lj))))
   (aA (jR iR rfl (gB (pv 1)) (bp (i:=4) pJ.nd rfl (Or.inl rfl))
    (aA (ba (i:=5) pJ.nd rfl (Or.inl rfl) (iT GP hr rfl mP kP bP .nil eF (ae (pv 0) (ae (gF (Xm rfl) rfl B.list boot_list (ae (pv 2) ah)) ah))))
    (aA (jR iR rfl (qO rfl B.range (ae ay ah)) (bp (i:=6) pJ.nd rfl (Or.inl rfl))
     (aG (cf (bK pE (iT GL hr rfl mL kL bL .nil eF (ae (pv 2) (ae (pv 4) (ae (pv 5) ah)))) iy (bQ _))
      (aG (ba (i:=5) pJ.nd rfl (Or.inl rfl) (tM Ew (pv 5) tT (tU (OT OA ay))))) cO)))
    (aA (lq bO (pv 2) (pv 4) (iT GL hr rfl mL kL bL .nil eF (ae (pv 2) (ae (pv 4) (ae (pv 5) ah)))) rfl)
    (aG (lq bO (pv 3) (pv 4) (pv 5) rfl))))))
   (aA (ba (i:=7) pJ.nd rfl (Or.inl rfl) (gF We rfl B.tuple boot_tuple (ae (fZ LD rfl B2.sorted boot_sorted (ae (gM rfl Pa (gB (pv 1)) (fun s H fp=>⟨bp (i:=0) Pa.nd rfl (Or.inl rfl),hJ,
     bJ (ae (pv 0) (ae (gF (LG K rfl) rfl B.tuple boot_tuple (ae (jP bO (pv 1) (pv 0) (fun _ _=>rfl)) ah)) ah))⟩)) ah)) ah)))
   (aG (bz (bJ (ae (pv 7) (ae (pv 2) ah))))))),?_⟩
  intro d1 yr d2 hd2;have S2:aB H (upd (upd H d1 (.dK [])) d2 (.dK [])):=(ar yr).trans (ar hd2);have JF:d1≠d2:=aq af hd2;have QI:H d2=none:=(ar yr).free hd2;refine⟨by show 2<=sizeLine;rw[aT];decide,fun tp yt=>?_⟩
  have k2:(upd (upd H d1 (.dK [])) d2 (.dK [])) d1=some (.dK []):=by rw[ag JF];exact af
  have S3:=S2.trans (ar (o:= .tup [V.ref d1,.ref d2]) yt);have QJ:upd (upd (upd H d1 (.dK [])) d2 (.dK [])) tp (.tup [V.ref d1,.ref d2]) d1=some (.dK []):=by rw[ag (aq k2 yt)];exact k2
  have QK:upd (upd (upd H d1 (.dK [])) d2 (.dK [])) tp (.tup [V.ref d1,.ref d2]) d2=some (.dK []):=by rw[ag (aq af yt)];exact af
  refine⟨tp,_,rfl,aE.of af,rfl,_,_,rfl,_,_,rfl,rfl,?_⟩;generalize upd (upd (upd H d1 (.dK [])) d2 (.dK [])) tp (.tup [V.ref d1,.ref d2])=H0 at S3 QJ QK ⊢;have P0:bU p H H0:=nM hp S3;have np1:p≠d1:=hp.ne yr;have np2:p≠d2:=hp.ne QI;have JG:n≠p:=pq hp hn;refine⟨_,rfl,n,rfl,⟨_,ak.of (P0.kp _ _ hn JG)⟩,tL (xs:=ks.map V.str) (fun i σ H1=>∃ (dc pP:List (Key×V)) (L Ps:Str->List Str) (v4 v5 v6:Option V),σ = [some (.ref p),some (.ref n),some (.ref d1),some (.ref d2),v4,v5,v6,none]/\bU p H H1 /\
   H1 d1=some (.dK dc)/\H1 d2=some (.dK pP)/\dc.map (·.1)=(ks.take i).map Sum.inr/\pP.map (·.1)=(ks.take i).map Sum.inr/\(∀x∈ks.take i,gv H1 dc L x)/\(∀x∈ks.take i,gv H1 pP Ps x)/\Fm (ks.take i) L Ps)
   ⟨[],[],fun _=>[],fun _=>[],none,none,none,rfl,P0,QJ,QK,rfl,rfl,fun x hx=>(by cases hx),fun x hx=>(by cases hx),⟨fun x hx=>(by cases hx),fun x hx=>(by cases hx),fun x hx=>(by cases hx)⟩⟩ (fun i σ H1 _ ⟨_,_,_,_,_,_,_,_,z,_⟩=>ak.of (z.kp _ _ hn JG)) ?_ ?_⟩
  ·rintro i x σ H1 hx ⟨dc,pP,L,Ps,v4,v5,v6,rfl,P1,Ct,JH,e1,e2,l1,l2,fm⟩
   have cD:i < ks.length:=by simpa using (cu.mp hx).1
   obtain rfl:V.str ks[i]=x:=by simpa [cD] using hx
   have gf:ks.take (i+1)=ks.take i ++ [ks[i]]:=by rw[eX,b4 cD];rfl
   have Gp:ks[i] ∉ ks.take i:=by
    have:(ks.take (i+1)).Nodup:=knd.sublist (KW _ _);rw[gf]at this;exact fun z=>(g9.mp this).2.2 _ z _ aW rfl
   have Cu:(ks.take i).Nodup:=knd.sublist (KW _ _);have Tj:∀x∈ks.take i,Nm x:=fun x hx=>jC x (V3 hx);have d8:(ks.take i).length<=8:=by rw[eJ];omega
   have lk1:dc.length=(ks.take i).length:=by have:=eU List.length e1;simpa using this
   have lk2:pP.length=(ks.take i).length:=by have:=eU List.length e2;simpa using this
   refine⟨_,rfl,_,rfl,d1,dc,rfl,Ct,fun l hl=>?_⟩;have ek:dc.map (fun kv=>kV kv.1)=(ks.take i).map V.str:=by
    have:dc.map (fun kv=>kV kv.1)=(dc.map (·.1)).map kV:=by rw[vw];rfl
    rw[this,e1,vw];rfl
   rw[ek];have Pl:=P1.new (o:= .lst ((ks.take i).map V.str)) hl;have Sl:=ar (o:= .lst ((ks.take i).map V.str)) hl;refine AD.mk rfl Pl.ok (P1.ok.ne hl) af (by omega) fun oa own rest H3 oK hV kR pb h3=>?_
   have P3:=Pl.trans pb;have kU:own.Nodup:=(g9.mp (hV.nodup_iff.mpr Cu)).1;have jw:∀y∈own,y∈ks.take i:=fun y hy=>hV.mem_iff.mp (nu _ hy);have JI:=Og Pl.ok pb (Sl _ _ Ct);have h32:=Og Pl.ok pb (Sl _ _ JH);have JJ:∀x∈ks.take i,gv H3 dc L x:=fun x hx=>((l1 x hx).same Sl).Ti Pl.ok pb;have l32:∀x∈ks.take i,gv H3 pP Ps x:=fun x hx=>((l2 x hx).same Sl).Ti Pl.ok pb;refine⟨5,rfl,by decide,by decide,vE (fun j σ H4=>∃ (oa:Addr) (own:List Str) (v6:Option V),σ = [some (.ref p),some (.ref n),some (.ref d1),some (.ref d2),some (.str ks[i]),some (.ref oa),v6,none]/\aB H3 H4/\H4 oa=some (.lst (own.map V.str))/\own.Nodup/\(∀y∈own,y∈ks.take i)/\own.length<=4/\(cT (total (rowsOf L own)) (rowsOf L own)≠none\/own.length+j<=4))
    ⟨oa,own,_,rfl,aB.refl _,h3,kU,jw,kR,.inr kR⟩ ?_ ?_⟩
   ·clear hV kR kU jw h3 oK
    rintro j σ H4 hj ⟨oa,own,v6,rfl,S4,h4,kU,jw,kR,JK⟩;have yp:=fm.small Tj d8 kU kR jw;have JL:=fun r hr=>(fm.ue kU jw r hr).1;refine⟨_,rfl,_,rfl,_,rfl,xf.mk rfl (S4 _ _ JI) h4 (fun x hx=>(JJ x (jw x hx)).same S4) yp JL (fun e H5 S5=>?_) (fun o e lp H5 JM S5 h5=>?_)⟩
    ·refine⟨rfl,_,rfl,?_⟩
     refine⟨_,rfl,?_⟩;have bY:own ≠ []:=fun z=>by rw[z]at e;cases e
     have Qr:0 < own.length:=aoh.mpr bY;refine⟨1,rfl,_,rfl,oa,_,rfl,ak.of (S5 _ _ h4),fun c hc=>?_⟩;refine⟨c,own.dropLast,_,rfl,(S4.trans S5).trans (ar hc),?_,kU.sublist (List.dropLast_sublist _),fun y hy=>jw y (List.dropLast_subset _ hy),by rw[Vo];omega,.inr ?_⟩
     ·have:=Zo own
      rw[af];exact eU some (eU HO.lst this)
     ·rcases JK with z|z
      ·exact absurd e z
      ·rw[Vo];omega
    ·refine⟨rfl,_,rfl,?_⟩
     exact⟨oa,own,_,rfl,S4.trans S5,S5 _ _ h4,kU,jw,kR,.inl (by rw[e];exact Option.some_ne_none _)⟩
   ·clear hV kR kU jw h3 oK
    rintro σ H4 ⟨oa,own,v6,rfl,S4,h4,kU,jw,kR,JK⟩;have yp:=fm.small Tj d8 kU kR jw;have JL:=fun r hr=>(fm.ue kU jw r hr).1;have hn0:cT (total (rowsOf L own)) (rowsOf L own)≠none:=by
     rcases JK with z|z
     ·exact z
     ·exact absurd z (by show ¬ (own.length+Int.toNat 5<=4);have:Int.toNat 5=5:=rfl;omega)
    refine⟨_,rfl,_,rfl,_,rfl,xf.mk rfl (S4 _ _ JI) h4 (fun x hx=>(JJ x (jw x hx)).same S4) yp JL (fun e=>absurd e hn0) (fun o e lp H5 JM S5 h5=>?_)⟩;have yu:=S4.trans S5;have Cv:=yu _ _ JI;have h52:=yu _ _ h32;refine⟨_,rfl,_,rfl,d1,_,rfl,hZ.k (k:=Sum.inr ks[i]) Cv (by rw[aT];omega),?_⟩
    have JN:upd H5 d1 (.dK (putK dc (Sum.inr ks[i]) (.ref lp))) d2=some (.dK pP):=by rw[ag (aN JF)];exact h52
    refine⟨_,rfl,_,rfl,_,rfl,d2,_,rfl,hZ.k (k:=Sum.inr ks[i]) JN (by rw[aT];omega),?_⟩
    have P5:bU p H H5:=P3.trans (nM P3.ok yu);have l61:∀x∈ks.take (i+1),gv (upd H5 d1 (.dK (putK dc (Sum.inr ks[i]) (.ref lp)))) (putK dc (Sum.inr ks[i]) (.ref lp)) (fun x=>if x=ks[i] then ks[i]::o else L x) x:=fun x hx=>Oh Cv h5 fun ne=>(JJ x (by
     rw[gf]at hx;rcases ee.mp hx with z|z
     ·exact z
     ·exact absurd (by simpa using z) ne)).same yu
    have h6o:upd H5 d1 (.dK (putK dc (Sum.inr ks[i]) (.ref lp))) oa=some (.lst (own.map V.str)):=by rw[ag (ao (S5 _ _ h4) Cv (by intro z;cases z))];exact S5 _ _ h4
    refine⟨_,_,_,_,_,_,_,rfl,(P5.write yr np1).write QI np2,by rw[ag JF];exact af,af,by rw[gf];exact Nz e1 Gp,by rw[gf];exact Nz e2 Gp,fun x hx=>(l61 x hx).write JN rfl,fun x hx=>?_,by rw[gf];exact fm.add Gp kU kR jw e⟩
    refine Oh JN h6o fun ne=>?_;exact((l32 x (by
     rw[gf]at hx;rcases ee.mp hx with z|z
     ·exact z
     ·exact absurd (by simpa using z) ne)).same yu).write Cv rfl
  ·rintro σ H1 ⟨dc,pP,L,Ps,v4,v5,v6,rfl,P1,Ct,JH,e1,e2,l1,l2,fm⟩
   rw[aJ,eK]at e1 l1 l2 fm;have To:=P1.kp _ _ hn JG;refine⟨_,rfl,n,rfl,⟨_,ak.of To⟩,fun c hc=>?_⟩;refine iS (xs:=ks.map V.str) (fun i ys τ H2=>∃t0:Option V,τ = [t0,some (.ref d2)]/\H2 c=some (.lst ys)/\aB H1 H2/\eO H2 ys (jT Ps (ks.take i))) ⟨none,rfl,af,ar hc,.nil⟩ (fun i ys τ H2 ⟨_,_,z1,z2,_⟩=>⟨z1,ak.of (z2 _ _ To)⟩) ?_ ?_
   ·rintro i x ys τ H2 hx ⟨t0,rfl,h2,yv,F2⟩
    have b6:i < (ks.map V.str).length:=(cu.mp hx).1;have cD:i < ks.length:=by simpa using b6
    obtain rfl:V.str ks[i]=x:=by simpa [cD] using hx
    have gf:ks.take (i+1)=ks.take i ++ [ks[i]]:=by rw[eX,b4 cD];rfl
    obtain⟨a,ea,ha⟩:=(l2 ks[i] (kY cD)).same yv;refine⟨_,rfl,_,rfl,_,rfl,d2,.ref a,rfl,by rw[<-ea];exact cU.k (k:=Sum.inr ks[i]) (yv _ _ JH),?_⟩
    refine⟨a,_,rfl,.inl ⟨ak.of ha,fun b hb=>?_⟩⟩;have Sb:=ar (o:= .tup ((Ps ks[i]).map V.str)) hb;refine⟨by show 2<=sizeLine;rw[aT];decide,fun t ht=>?_⟩
    have St:=Sb.trans (ar (o:= .tup [V.str ks[i],.ref b]) ht);have Tp:upd (upd H2 b (.tup ((Ps ks[i]).map V.str))) t (.tup [V.str ks[i],.ref b]) b=some (.tup ((Ps ks[i]).map V.str)):=by rw[ag (aq af ht)];exact af
    have JO:=St _ _ h2;refine⟨JO,?_,cw_next b6 ⟨_,rfl,af,fun x u hx=>by rw[ag (aq hx hc)];exact St _ _ (yv x u hx),?_⟩⟩
    ·have:=F2.length
     unfold jT at this;rw[aJ,eJ]at this;rw[aT];omega
    ·have ef:jT Ps (ks.take (i+1))=jT Ps (ks.take i) ++ [(ks[i],Ps ks[i])]:=by rw[gf];unfold jT;rw[bB];rfl
     rw[ef];refine eO.append (F2.keep fun x xs hx=>?_) ?_ ?_ (b:=b)
     ·rw[ag (ao hx h2 (by intro z;cases z))];exact St _ _ hx
     ·rw[ag (ao af JO (by intro z;cases z))];exact af
     ·rw[ag (ao Tp JO (by intro z;cases z))];exact Tp
   ·rintro ys τ H2 ⟨t0,rfl,h2,yv,F2⟩
    rw[aJ,eK]at F2;obtain⟨kvs,pv,ekv⟩:=F2.keyed;have gJ:=F2.length;have sC:(jT Ps ks).length=ks.length:=by unfold jT;exact aJ ..
    refine⟨c,ys,kvs,1,rfl,.inl (ak.of h2),pv,aP _,by rw[ekv,Ma];exact knd.map _ fun a b n e=>n (List.cons.inj e).1,by omega,fun D iK eM hD hV hpv Jj hso=>?_⟩
    have SD:=ar (o:= .lst iK) hD;refine⟨D,iK,rfl,ak.of af,fun t o ht ho=>?_⟩;have St:=SD.trans (ar (o:= .cq o (.tup iK)) ht);obtain⟨xc,sD,F3⟩:=LM hV F2;refine⟨_,rfl,_,rfl,cJ,fun r hr=>?_⟩;have Sr:=St.trans (ar (o:= .tup [V.ref t,.ref d1]) hr);have Gq:=yv.trans Sr;refine q r t d1 o iK dc L Ps xc _ ⟨af,by rw[ag (aq af hr)];exact af,ho,eO.same F3 Sr,sD,fm,Gq _ _ Ct,e1,fun x hx=>(l1 x hx).same Gq,P1.trans (nM P1.ok Gq),yr⟩
theorem boot_int:bootBuiltins "int" = some (.type "int"):=by decide +kernel
structure QL (mg:Str->Option Value):Prop where
 int:mg "int" = none
 bool:mg "bool" = none
theorem gn {x:V}:cZ (x::xs) 0=some x:=(show cZ (x::xs) ((0:Nat):Int)=some x from gg rfl)
theorem iY {x:V}:cZ (x::y::xs) 1=some y:=(show cZ (x::y::xs) ((1:Nat):Int)=some y from gg rfl)
theorem A1 {x z:V}:cZ (x::y::z::xs) 2=some z:=(show cZ (x::y::z::xs) ((2:Nat):Int)=some z from gg rfl)
end gu
namespace L2
open PySem PySem.W
theorem Rep.tupI {ds:List PyData} (r:Rep H v (.tuple ds)):∃a vs,v = .ref a/\H a=some (.tup vs)/\cP H vs ds:=by
 cases r with
 |tup e rs=>exact⟨_,_,rfl,e,rs⟩
theorem Rep.mG (r:Rep H v (.str x)):v = .str x:=by cases r;rfl
theorem Rep.pQ {x:Int} (r:Rep H v (.int x)):v = .int x:=by cases r;rfl
theorem cP.js {d:PyData}{ds:List PyData} (r:cP H vs (d::ds)):∃v ws,vs=v::ws/\Rep H v d/\cP H ws ds:=by
 cases r with
 |cons a b=>exact⟨_,_,rfl,a,b⟩
theorem cP.xi (r:cP H vs []):vs = []:=by cases r;rfl
theorem cP.length {H:Hp}:∀ {vs:List V}{ds:List PyData},cP H vs ds->vs.length=ds.length
 |_,_,.nil=>rfl
 |_,_,.cons _ rs=>by rw[d7,d7,cP.length rs]
end L2
namespace gu
open PySem L2 PySem.W HT
inductive je:PyData->Prop where
 |add (n:Int) (h:n.natAbs<=10 ^ 18):je (.tuple [.str "add",.int n])
 |times (n:Int) (lo : -9<=n) (hi:n<=9):je (.tuple [.str "times",.int n])
 |E7:je (.tuple [.str "onward"])
 |ask (x:Str) (h:Nm x):je (.tuple [.str "ask",.str x])
inductive Ent:PyData->Prop where
 |plain (n:Int) (h:n.natAbs<=10 ^ 18):Ent (.tuple [.str "plain",.int n])
 |ahead (x:Str) (n:Int) (h:Nm x) (hn:n.natAbs<=10 ^ 18):Ent (.tuple [.str "ahead",.str x,.int n])
 |behind (ds:List PyData) (h4:ds.length<=4) (hs:∀d∈ds,je d):Ent (.tuple [.str "behind",.tuple ds])
 |uA (ds:List PyData) (h4:ds.length<=4) (hs:∀d∈ds,je d):Ent (.tuple [.str "shut",.tuple ds])
theorem two1 {s:Str}{d:PyData} (r:Rep H v (.tuple [.str s,d])):∃a u,v = .ref a/\H a=some (.tup [.str s,u])/\Rep H u d:=by
 obtain⟨a,vs,rfl,ha,rs⟩:=r.tupI;obtain⟨v0,w0,rfl,r0,rs⟩:=rs.js;obtain⟨v1,w1,rfl,r1,rs⟩:=rs.js;obtain rfl:=rs.xi;obtain rfl:=r0.mG;exact⟨a,v1,rfl,ha,r1⟩
theorem je.keep {d:PyData} (s:je d) (r:Rep H v d) (k:∀b xs,H b=some (.tup xs)->H' b=some (.tup xs)):Rep H' v d:=by
 cases s with
 |add n =>
  obtain⟨a,u,rfl,ha,r1⟩:=two1 r;obtain rfl:=r1.pQ;exact .tup (k _ _ ha) (.cons (.str _) (.cons (.int _) .nil))
 |times n =>
  obtain⟨a,u,rfl,ha,r1⟩:=two1 r;obtain rfl:=r1.pQ;exact .tup (k _ _ ha) (.cons (.str _) (.cons (.int _) .nil))
 |ask x =>
  obtain⟨a,u,rfl,ha,r1⟩:=two1 r;obtain rfl:=r1.mG;exact .tup (k _ _ ha) (.cons (.str _) (.cons (.str _) .nil))
 |E7 =>
  obtain⟨a,vs,rfl,ha,rs⟩:=r.tupI;obtain⟨v0,w0,rfl,r0,rs⟩:=rs.js;obtain rfl:=rs.xi;obtain rfl:=r0.mG;exact .tup (k _ _ ha) (.cons (.str _) .nil)
theorem o9 (k:∀b xs,H b=some (.tup xs)->H' b=some (.tup xs)) {ds:List PyData} (r:cP H vs ds) (h:∀d∈ds,je d):cP H' vs ds:=by
 induction vs generalizing ds with
 |nil=>cases r;exact .nil
 |cons x xs ih=>cases r with|cons r rs=>exact .cons ((h _ aW).keep r k) (ih rs fun d hd=>h d (bq _ hd))
theorem Ent.keep {d:PyData} (s:Ent d) (r:Rep H v d) (k:∀b xs,H b=some (.tup xs)->H' b=some (.tup xs)):Rep H' v d:=by
 cases s with
 |plain n =>
  obtain⟨a,u,rfl,ha,r1⟩:=two1 r;obtain rfl:=r1.pQ;exact .tup (k _ _ ha) (.cons (.str _) (.cons (.int _) .nil))
 |ahead x n =>
  obtain⟨a,vs,rfl,ha,rs⟩:=r.tupI;obtain⟨v0,w0,rfl,r0,rs⟩:=rs.js;obtain⟨v1,w1,rfl,r1,rs⟩:=rs.js;obtain⟨v2,w2,rfl,r2,rs⟩:=rs.js;obtain rfl:=rs.xi;obtain rfl:=r0.mG;obtain rfl:=r1.mG;obtain rfl:=r2.pQ;exact .tup (k _ _ ha) (.cons (.str _) (.cons (.str _) (.cons (.int _) .nil)))
 |behind ds h4 hs =>
  obtain⟨a,u,rfl,ha,r1⟩:=two1 r;obtain⟨b,vs,rfl,hb,rs⟩:=r1.tupI;exact .tup (k _ _ ha) (.cons (.str _) (.cons (.tup (k _ _ hb) (o9 k rs hs)) .nil))
 |uA ds h4 hs =>
  obtain⟨a,u,rfl,ha,r1⟩:=two1 r;obtain⟨b,vs,rfl,hb,rs⟩:=r1.tupI;exact .tup (k _ _ ha) (.cons (.str _) (.cons (.tup (k _ _ hb) (o9 k rs hs)) .nil))
theorem EI (pk:iz p H) (pa:bU p H H'):∀b xs,H b=some (.tup xs)->H' b=some (.tup xs):=fun b xs e=>by
 obtain⟨x,y,e0,_⟩:=pk;exact pa.kp b _ e (ao e e0 (by intro z;cases z))
theorem NA:∀xs ys:List Str,PyData.eqvAll (xs.map PyData.str) (ys.map PyData.str)=decide (xs=ys)
 |[],[]=>rfl
 |[],y::ys=>rfl
 |x::xs,[]=>rfl
 |x::xs,y::ys=>by
  show((x==y) && PyData.eqvAll (xs.map PyData.str) (ys.map PyData.str))=_;rw[NA xs ys]
  by_cases e:x=y
  ·by_cases f:xs=ys <;> simp[e,f]
  ·simp[e]
abbrev Bk:=List (Str×Str×PyData)
def dY (p:Str×Str×PyData):List Str:= [p.1,p.2.1]
def dZ (H:Hp) (vs:List V) (bk:Bk):Prop:=Paired (fun v p=>∃a u,v=V.ref a/\H a=some (.tup [.str p.1,.str p.2.1,u])/\Rep H u p.2.2) vs bk
structure mH (bk:Bk):Prop where
 nm:∀p∈bk,Nm p.1/\Nm p.2.1
 ent:∀p∈bk,Ent p.2.2
 nd:(bk.map dY).Nodup
 aX:bk.length<=48
theorem dZ.keep (k:∀b xs,H b=some (.tup xs)->H' b=some (.tup xs)) {bk:Bk} (h:dZ H vs bk) (he:∀p∈bk,Ent p.2.2):dZ H' vs bk:=L2.Paired.PV h fun v p hp x=>by obtain⟨a,u,e,h,r⟩:=x;exact⟨a,u,e,k _ _ h,(he p hp).keep r k⟩
theorem dZ.same (S:aB H H') {bk:Bk} (h:dZ H vs bk):dZ H' vs bk:=Paired.imp' (fun v p x=>by obtain⟨a,u,e,h,r⟩:=x;exact⟨a,u,e,S _ _ h,r.same S⟩) h
theorem dZ.length {bk:Bk} (h:dZ H vs bk):vs.length=bk.length:=gZ h
theorem dZ.append {u:V}{p:Str×Str×PyData} (ha:H a=some (.tup [.str p.1,.str p.2.1,u])) (r:Rep H u p.2.2) {bk:Bk} (h:dZ H vs bk):dZ H (vs ++ [.ref a]) (bk ++ [p]):=qJ h ⟨a,u,rfl,ha,r⟩
theorem dZ.keyed {bk:Bk} (h:dZ H vs bk):∃kvs,rg H 2 vs kvs/\kvs.map (·.1)=bk.map dY:=by
 induction h with
 |nil=>exact⟨[],.nil,rfl⟩
 |cons x _ ih =>
  obtain⟨a,u,e,h,r⟩:=x;obtain⟨kvs,h1,h2⟩:=ih;exact⟨(dY _,[u])::kvs,.cons ⟨a,e,h,rfl⟩ h1,by rw[fX,fX,h2]⟩
inductive AE (vs:List V) (H:Hp) (Q:VK) (E:XK):Prop
 |mk {x:Str} (_:vs = [.str x]) (_:Nm x) (_:∀H',aB H H'->Q .aF H'):AE vs H Q E
theorem dZ.perm {xV:List V}{bk:Bk} (p:xV.Perm vs) (h:dZ H vs bk):∃gD,gD.Perm bk/\dZ H xV gD:=LM p h
def rN (p:Str×Str×PyData):List Key:= [Sum.inr p.1,Sum.inr p.2.1]
def d4 (H:Hp) (kvs:List (List Key×V)) (fV:Bk):Prop:=Paired (fun kv p=>kv.1=rN p/\Rep H kv.2 p.2.2) kvs fV
theorem d4.keep (k:∀b xs,H b=some (.tup xs)->H' b=some (.tup xs)) {fV:Bk} (h:d4 H kvs fV) (he:∀p∈fV,Ent p.2.2):d4 H' kvs fV:=L2.Paired.PV h fun v p hp x=>⟨x.1,(he p hp).keep x.2 k⟩
theorem d4.same (S:aB H H') {fV:Bk} (h:d4 H kvs fV):d4 H' kvs fV:=by
 induction h with
 |nil=>exact .nil
 |cons x _ ih=>exact .cons ⟨x.1,x.2.same S⟩ ih
theorem d4.length {fV:Bk} (h:d4 H kvs fV):kvs.length=fV.length:=gZ h
theorem NB {p:Str×Str×PyData}{k n:Str}:rN p = [Sum.inr k,Sum.inr n] ↔ dY p = [k,n]:=by
 unfold rN dY
 constructor
 ·intro h
  injection h with h1 h2;injection h2 with h3 _;rw[nj h1,nj h3]
 ·intro h
  injection h with h1 h2;injection h2 with h3 _;rw[h1,h3]
theorem d4.val {H:Hp}{k n:Str}:∀ {kvs:List (List Key×V)}{fV:Bk},d4 H kvs fV->(bo kvs [Sum.inr k,Sum.inr n]=none /\ [k,n] ∉ fV.map dY) \/ ∃v d,bo kvs [Sum.inr k,Sum.inr n]=some v/\(k,n,d)∈fV/\Rep H v d
 |_,_,.nil=>.inl ⟨rfl,by simp⟩
 |_,_,.cons (a:=kv) (b:=p) ⟨e,r⟩ t=>by
  by_cases hk:kv.1 = [Sum.inr k,Sum.inr n]
  ·have hp:=NB.mp (e.symm.trans hk)
   have e1:p.1=k:=by injection hp
   have e2:p.2.1=n:=by injection hp with _ z;injection z
   exact .inr ⟨kv.2,p.2.2,jo hk,by rw[<-e1,<-e2];exact aW,r⟩
  ·have hp:dY p ≠ [k,n]:=fun z=>hk (e.trans (NB.mpr z))
   rcases d4.val (k:=k) (n:=n) t with⟨a,b⟩|⟨v,d,a,b,c⟩
   ·refine .inl ⟨(hU hk).trans a,fun z=>?_⟩
    rw[fX]at z;rcases bj.mp z with z|z
    ·exact hp z.symm
    ·exact b z
   ·exact .inr ⟨v,d,(hU hk).trans a,bq _ b,c⟩
theorem d4.snoc {k n:Str}{d:PyData} (r:Rep H v d) {fV:Bk} (h:d4 H kvs fV):d4 H (kvs ++ [([Sum.inr k,Sum.inr n],v)]) (fV ++ [(k,n,d)]):=qJ h ⟨rfl,r⟩
theorem Oi {a b:Bk} (p:a.Perm b) (ok:mH b):mH a:=
 ⟨fun q hq=>ok.nm q (p.mem_iff.mp hq),fun q hq=>ok.ent q (p.mem_iff.mp hq),(p.map dY).nodup_iff.mpr ok.nd,by rw[p.length_eq];exact ok.aX⟩
theorem OO:∀ {bk:Bk}{p q:Str×Str×PyData},(bk.map dY).Nodup->p∈bk->q∈bk->p≠q->dY p≠dY q
 |[],_,_,_,h,_,_=>by cases h
 |x::bk,p,q,nd,hp,hq,ne=>by
  rw[fX,g8]at nd;rcases bj.mp hp with e1|jA
  ·rcases bj.mp hq with e2|oF
   ·exact absurd (e1.trans e2.symm) ne
   ·intro z
    exact nd.1 (e1 ▸ z ▸ br.mpr ⟨q,oF,rfl⟩)
  ·rcases bj.mp hq with e2|oF
   ·intro z
    exact nd.1 (e2 ▸ z ▸ br.mpr ⟨p,jA,rfl⟩)
   ·exact OO nd.2 jA oF ne
theorem Eh (K:Frag) (h:X.K=K) {k:Nat}{t:mK} (hc:X.calm=true) (hh:uH X es t)
  (hn:(assignEach es X.env).length=n:=by rfl) (fj:(assignEach es X.env).findIdx? (·.1)=none:=by rfl):PG X (.Tuple es k pos) (Pz K n t):=by subst h;exact pD hc hh hn fj
def cy (bk:Bk) (k n:Str):Option PyData:=(bk.find? fun p=>decide (dY p = [k,n])).map (·.2.2)
def ck (bk:Bk) (n:Str):List Str->Option (Str×PyData)
 |[]=>none
 |x::r=>match cy bk x n with
  |some d=>some (x,d)
  |none=>ck bk n r
theorem zv {k n:Str}{bk:Bk}:cy bk k n=none ↔ [k,n] ∉ bk.map dY:=by
 unfold cy;rw[Option.map_eq_none_iff,List.find?_eq_none]
 constructor
 ·intro h z
  obtain⟨p,hp,e⟩:=br.mp z;exact h p hp (fY e)
 ·intro h p hp z
  exact h (br.mpr ⟨p,hp,iQ z⟩)
theorem qN {k n:Str}{d:PyData}{bk:Bk} (h:cy bk k n=some d):(k,n,d)∈bk:=by
 unfold cy at h;obtain⟨p,hp,rfl⟩:=kB.mp h;have hm:=List.mem_of_find?_eq_some hp;have hk:dY p = [k,n]:=iQ (List.find?_some (p:=fun q=>decide (dY q = [k,n])) hp);obtain⟨a,b,c⟩:=p;injection hk with e1 e2;injection e2 with e2 _;subst e1 e2;exact hm
theorem Mb {k n:Str}{d:PyData}{bk:Bk} (nd:(bk.map dY).Nodup) (h:(k,n,d)∈bk):cy bk k n=some d:=by
 cases e:cy bk k n with
 |none=>exact absurd (br.mpr ⟨_,h,rfl⟩) (zv.mp e)
 |some d' =>
  have h':=qN e
  by_cases z:d=d'
  ·rw[z]
  ·exact absurd (show dY (k,n,d)=dY (k,n,d') from rfl) (OO nd h h' (fun w=>z (by injection w with _ w;injection w)))
theorem LO {k n:Str}{a b:Bk} (p:a.Perm b) (nd:(b.map dY).Nodup):cy a k n=cy b k n:=by
 cases e:cy a k n with
 |none =>
  exact(zv.mpr fun z=>zv.mp e ((p.map dY).mem_iff.mpr z)).symm
 |some d=>exact(Mb nd (p.mem_iff.mp (qN e))).symm
theorem NC {n:Str}{a b:Bk} (p:a.Perm b) (nd:(b.map dY).Nodup):∀l:List Str,ck a n l=ck b n l
 |[]=>rfl
 |x::r=>by unfold ck;rw[LO p nd,NC p nd r]
theorem abr {bk:Bk}{n:Str} (h:cy bk x n=none):ck bk n (x::r)=ck bk n r:=by
 show(match cy bk x n with|some d=>some (x,d)|none=>ck bk n r)=_;rw[h]
theorem aax {bk:Bk}{n:Str}{d:PyData} (h:cy bk x n=some d):ck bk n (x::r)=some (x,d):=by
 show(match cy bk x n with|some d=>some (x,d)|none=>ck bk n r)=_;rw[h]
theorem DP {bk:Bk}{n:Str}{x:Str}:∀ (l:List Str),(∀y∈l,cy bk y n=none) -> ∀r,ck bk n (l++r)=ck bk n r
 |[],_,_=>rfl
 |y::l,h,r=>by
  show ck bk n (y::(l++r))=_;rw[abr (h y aW)];exact DP (x:=x) l (fun z hz=>h z (bq _ hz)) r
theorem vX {bk:Bk}{n x:Str}{d:PyData}:∀ {l:List Str},ck bk n l=some (x,d)->x∈l/\cy bk x n=some d
 |[],h=>by cases h
 |y::l,h=>by
  unfold ck at h;cases e:cy bk y n with
  |some d'=>rw[e]at h;cases h;exact⟨aW,e⟩
  |none =>
   rw[e]at h;obtain⟨a,b⟩:=vX (l:=l) h;exact⟨bq _ a,b⟩
theorem d4.look {k n:Str}{fV:Bk} (h:d4 H kvs fV) (nd:(fV.map dY).Nodup):(cy fV k n=none/\bo kvs [Sum.inr k,Sum.inr n]=none) \/ ∃v d,cy fV k n=some d/\bo kvs [Sum.inr k,Sum.inr n]=some v/\Rep H v d:=by
 rcases h.val (k:=k) (n:=n) with⟨a,b⟩|⟨v,d,a,b,c⟩
 ·exact .inl ⟨zv.mpr b,a⟩
 ·exact .inr ⟨v,d,Mb nd b,a,c⟩
def og (H:Hp) (v:V):Option (Str×PyData)->Prop
 |none=>v = .aF
 |some (x,d)=>∃t u,v = .ref t/\H t=some (.tup [.str x,u])/\Rep H u d
theorem og.keep (k:∀b xs,H b=some (.tup xs)->H' b=some (.tup xs)) {r:Option (Str×PyData)} (h:og H v r) (he:∀x d,r=some (x,d)->Ent d):og H' v r:=by
 cases r with
 |none=>exact h
 |some p =>
  obtain⟨t,u,rfl,ht,r⟩:=h;exact⟨t,u,rfl,k _ _ ht,(he _ _ rfl).keep r k⟩
def aay (e:Expr):Scope:=match e with|.DictComp _ _ _ sc _=>sc|.SetComp _ _ sc _=>sc|_=>{ kind:= .function,names:= [],isGenerator:=false,isCoroutine:=false }
def cB (line:List Str) (b:Str):List Str:=if b = "" then line else line.drop (line.idxOf b+1)
def fF (dl de dh:Addr) (m:Int):List (Str×V):= [("lines",.ref dl),("entries",.ref de),("hits",.ref dh),("met",.int m)]
theorem nO {f g:Str}{x:V}{r:List (Str×V)} (h:g≠f):cg f v ((g,x)::r)=(g,x)::cg f v r:=aj h
theorem aaz {f:Str}{x:V}{r:List (Str×V)}:cg f v ((f,x)::r)=(f,v)::r:=ax rfl
theorem zQ {f:Str}:cg f v [] = [(f,v)]:=rfl
theorem aaA (dl de dh:Addr):cg "met" (.int 0) (cg "hits" (.ref dh) (cg "entries" (.ref de) (cg "lines" (.ref dl) [])))=fF dl de dh 0:=by
 rw[zQ,nO (f:= "entries") (by decide +kernel),zQ,nO (f:= "hits") (by decide +kernel),nO (f:= "hits") (by decide +kernel),zQ,nO (f:= "met") (by decide +kernel),nO (f:= "met") (by decide +kernel),nO (f:= "met") (by decide +kernel),zQ]
 rfl
theorem abt (dl de dh:Addr) (m m':Int):cg "met" (.int m') (fF dl de dh m)=fF dl de dh m':=by
 unfold fF;rw[nO (f:= "met") (by decide +kernel),nO (f:= "met") (by decide +kernel),nO (f:= "met") (by decide +kernel),aaz]
theorem mw {α:Type}{y:Str}{v:α}{r:List (Str×α)} (h:x≠y):List.lookup x ((y,v)::r)=List.lookup x r:=by
 rw[gE];have:(x==y)=false:=by simpa using h
 rw[this]
theorem AF {α:Type}{v:α}{r:List (Str×α)}:List.lookup x ((x,v)::r)=some v:=by
 rw[gE,Vp]
section
variable{dl de dh:Addr}
theorem ND:(fF dl de dh m).lookup ("lines" : Str)=some (V.ref dl):=AF
theorem Mc:(fF dl de dh m).lookup ("entries" : Str)=some (V.ref de):=by unfold fF;rw[mw (by decide +kernel)];exact AF
theorem zZ:(fF dl de dh m).lookup ("hits" : Str)=some (V.ref dh):=by unfold fF;rw[mw (by decide +kernel),mw (by decide +kernel)];exact AF
theorem abu:(fF dl de dh m).lookup ("met" : Str)=some (V.int m):=by unfold fF;rw[mw (by decide +kernel),mw (by decide +kernel),mw (by decide +kernel)];exact AF
theorem Fw (h1:x ≠ "lines") (h2:x ≠ "entries") (h3:x ≠ "hits") (h4:x ≠ "met"):(fF dl de dh m).lookup x=none:=by unfold fF;rw[mw h1,mw h2,mw h3,mw h4];rfl
end
structure pR (K:Frag) (mg:Str->Option Value) (C:Addr):Prop where
 cl:jy K C
 nl:f6 K C "lines"
 ne:f6 K C "entries"
 nh:f6 K C "hits"
 nm:f6 K C "met"
 yw:mg "Finds" = some (.ref C)
structure FI (C x dx dl de dh:Addr) (kl:List (Key×V)) (ke kh:List (List Key×V)) (m:Int) (bk:Bk) (H:Hp):Prop where
 hx:H x=some (.ins C dx (fF dl de dh m))
 hl:H dl=some (.dK kl)
 he:H de=some (.dT ke)
 hh:H dh=some (.dT kh)
 du:d4 H ke bk
 ok:mH bk
 nn:de≠dh
inductive A2 (vs:List V) (H:Hp) (Q:VK) (E:XK):Prop
 |mk {t:Addr}{ws:List V}{bk:Bk} (_:vs = [.ref t]) (_:H t=some (.tup ws)) (_:dZ H ws bk) (_:mH bk) (_:∀d kvs H',H d=none->aB H H'->H' d=some (.dT kvs)->d4 H' kvs bk->Q (.ref d) H'):A2 vs H Q E
theorem ad8:bF ["book"] ["book"] (aI vO):=bV (by decide +kernel)
abbrev eEb:Expr:=AW (cG (bH vO) 0)
theorem A3:cK ["book"] (aI vO) ["kind","name","entry"] [none,none,none] (aay eEb):=gi (by decide +kernel)
theorem acw (F:aY K "entries_by_place" "entries_by_place" vO f fd):aS P w K mg base aO 1 f fd ["book"] A2:=by
 refine F.ok ad8 (fun vs H Q E h=>?_) (fun aH A outer s H vs Q E hr h=>?_)
 ·obtain⟨rfl,_⟩:=h;rfl
 ·obtain @⟨t,ws,bk,rfl,ht,bv,ok,q⟩:=h
  have hu:=hr.units;have bO:=iE hu;refine⟨_,aG (bz (Yd rfl A3 (t4 (pv 0)) (fun s H fp=>⟨Eh (n:=3) K rfl rfl (eY (bp (i:=0) A3.nd rfl (Or.inl rfl)) (eY (bp (i:=1) A3.nd rfl (Or.inl rfl)) (eY (bp (i:=2) A3.nd rfl (Or.inl rfl)) lj))),hJ,ab8 bO (bJ (ae (pv 0) (ae (pv 1) ah))) (pv 2)⟩))),?_⟩;have hlen:=bv.length;have aX:=ok.aX;refine⟨_,rfl,t,rfl,⟨_,aE.of ht⟩,fun c hc=>?_⟩;refine Ye (xs:=ws) (fun i τ H1=>∃ (t0 t1 t2:Option V) (kvs:List (List Key×V)),τ = [t0,t1,t2]/\aB H H1/\H1 c=some (.dT kvs)/\d4 H1 kvs (bk.take i)) ⟨none,none,none,[],rfl,ar hc,af,.nil⟩ (fun i τ H1 ⟨_,_,_,_,_,z,_⟩=>aE.of (z _ _ ht)) ?_ ?_
  ·rintro i x τ H1 hx ⟨t0,t1,t2,kvs,rfl,S1,h1,D1⟩
   have aV:i < ws.length:=(cu.mp hx).1;obtain⟨p,hp,a,u,rfl,ha,ru⟩:=L2.Paired.get (dZ.same S1 bv) hx;have pm:=kX hp;have tk:bk.take (i+1)=bk.take i ++ [p]:=by rw[eX,hp];rfl
   refine⟨a,_,rfl,aE.of ha,rfl,_,_,rfl,_,_,rfl,_,_,rfl,rfl,?_⟩;refine⟨_,rfl,_,rfl,cJ,fun kt jf=>?_⟩;have Sk:=ar (o:= .tup [V.str p.1,V.str p.2.1]) jf;have yx:upd H1 kt (.tup [V.str p.1,V.str p.2.1]) kt=some (.tup ((rN p).map kV)):=af;have mV:=Sk _ _ ha;have u9:=ru.same Sk;have D3:=d4.same Sk D1;have JP:=Sk _ _ h1;generalize upd H1 kt (.tup [V.str p.1,V.str p.2.1])=H3 at Sk yx mV u9 D3 JP ⊢;have kl:=D3.length;have gq:bo kvs (rN p)=none:=by
    rcases D3.val (k:=p.1) (n:=p.2.1) with⟨z,_⟩|⟨v,d',_,z2,_⟩
    ·exact z
    ·exfalso
     have nd:((bk.take (i+1)).map dY).Nodup:=ok.nd.sublist (List.Sublist.map _ (KW _ _));rw[tk,bB]at nd;exact(g9.mp nd).2.2 _ (br.mpr ⟨_,z2,rfl⟩) (dY p) (by simp) rfl
   refine⟨_,rfl,kvs,rN p,kt,rfl,yx,JP,?_,Y' aV ⟨_,_,_,_,rfl,fun b v e=>?_,af,?_⟩⟩
   ·rw[eJ]at kl
    rw[aT];omega
   ·rw[ag (aq e hc)];exact Sk _ _ (S1 _ _ e)
   ·rw[tk,qT _ gq]
    have up:∀b xs,H3 b=some (.tup xs)->upd H3 c (.dT (kvs ++ [(rN p,u)])) b=some (.tup xs):=fun b xs e=>by rw[ag (ao e JP (by intro z;cases z))];exact e
    exact d4.snoc (k:=p.1) (n:=p.2.1) ((ok.ent p pm).keep u9 up) (D3.keep up fun q hq=>ok.ent q (V3 hq))
  ·rintro τ H1 ⟨t0,t1,t2,kvs,rfl,S1,h1,D1⟩
   rw[hlen,eK]at D1;exact q c kvs H1 hc S1 h1 D1
theorem Yr {b:Str}:uN (.str b) ((("" : Str)::line).map V.str)=decide (b = "" \/ b∈line):=by
 rw[qR]
 by_cases e:b = "" \/ b∈line
 ·rw[fY e]
  exact fY (by rcases e with z|z;rw[z];exact aW;exact bq _ z)
 ·rw[ji e]
  exact ji (fun z=>e (by rcases bj.mp z with y|y;exact .inl y;exact .inr y))
inductive A4 (vs:List V) (H:Hp) (Q:VK) (E:XK):Prop
 |mk {t:Addr}{line:List Str}{b:Str} (_:vs = [.ref t,.str b]) (_:H t=some (.tup (line.map V.str))) (_:line.length<=200) (_:(b = "" \/ b∈line)) (_:∀H',aB H H'->Q (.bl true) H'):A4 vs H Q E
theorem ad9:bF ["line","thing"] ["line","thing"] (aI DV):=bV (by decide +kernel)
theorem acx (F:aY K "is_behind" "is_behind" DV f fd) (B2:pO mg):aS P w K mg base aO 1 f fd ["line","thing"] A4:=by
 refine F.ok ad9 (fun vs H Q E h=>?_) (fun aH A outer s H vs Q E hr h=>?_)
 ·obtain⟨rfl,_⟩:=h;rfl
 ·obtain @⟨t,line,b,rfl,ht,hl,hb,q⟩:=h
  refine⟨_,aG (bz (Ow (fZ M' rfl B2.SS Nx (ae (pv 1) (ae (NS (v:= .ty "str") rfl B2.str boot_str rfl) ah))) (Ov (qV tH (pv 1) (cH N4 (bJ (ae b9 ah)) (pv 0)) rfl)))),?_⟩;refine⟨_,rfl,⟨_,.inr ⟨"str",rfl⟩⟩,.str b,.ty "str",.type "str",.type "str",true,rfl,rfl,.inl (.str b),rfl,true,rfl,?_⟩;refine⟨_,rfl,gI,fun c hc=>?_⟩;have Sc:=ar (o:= .tup [V.str ""]) hc;refine⟨_,rfl,c,t,_,_,rfl,rfl,af,Sc _ _ ht,by rw[aJ,aT];show 1+_<=_;omega,fun p H' S' h'=>?_⟩
  have iL:H' p=some (.tup ((("" : Str)::line).map V.str)):=h';refine⟨p,_,rfl,.inr (aE.of iL),rfl,qP _,?_⟩;rw[aj cw,Yr,fY hb];exact q H' (Sc.trans S')
inductive A5 (vs:List V) (H:Hp) (Q:VK) (E:XK):Prop
 |mk {t:Addr}{line:List Str}{b:Str} (_:vs = [.ref t,.str b]) (_:H t=some (.tup (line.map V.str))) (_:line.length<=200) (_:(b = "" \/ b∈line)) (_:∀H',aB H H'->Q .aF H'):A5 vs H Q E
theorem aea:bF ["line","thing"] ["line","thing"] (aI EF):=bV (by decide +kernel)
theorem acy (F:aY K "check_behind" "check_behind" EF f fd) (GI:dq P w K mg base aO 1 fI dI ["line","thing"] A4 "is_behind"):aS P w K mg base aO 2 f fd ["line","thing"] A5:=by
 refine F.ok aea (fun vs H Q E h=>?_) (fun aH A outer s H vs Q E hr h=>?_)
 ·obtain⟨rfl,_⟩:=h;rfl
 ·obtain @⟨t,line,b,rfl,ht,hl,hb,q⟩:=h
  refine⟨_,aG (cf (pB (pA (cQ GI hr (ae (pv 0) (ae (pv 1) ah))))) zx cO),?_⟩;exact⟨_,rfl,_,rfl,A4.mk rfl ht hl hb fun H1 S1=>⟨true,rfl,q H1 S1⟩⟩
inductive AG (C:Addr) (vs:List V) (H:Hp) (Q:VK) (E:XK):Prop
 |mk {x dl de dx:Addr} (_:vs = [.ref x,.ref dl,.ref de]) (_:H x=some (.ins C dx [])) (_:∀dh,H dh=none->Q .aF (upd (upd H dh (.dT [])) x (.ins C dx (fF dl de dh 0)))):AG C vs H Q E
theorem acz:bF ["self","lines","entries"] ["self","lines","entries"] (aI uk):=bV (by decide +kernel)
theorem abv (F:aY K "__init__" "Finds.__init__" uk f fd) (T:pR K mg C):aS P w K mg base aO 1 f fd ["self","lines","entries"] (AG C):=by
 refine F.ok acz (fun vs H Q E h=>?_) (fun aH A outer s H vs Q E hr h=>?_)
 ·obtain⟨rfl,_⟩:=h;rfl
 ·obtain @⟨x,dl,de,dx,rfl,hx,q⟩:=h
  refine⟨_,aA (iU (pv 0) (pv 1) rfl) (aA (iU (pv 0) (pv 2) rfl) (aA (iU (pv 0) D8 rfl) (aG (iU (pv 0) ay rfl)))),?_⟩;refine⟨_,rfl,_,rfl,x,C,dx,[],rfl,hx,T.cl,T.nl,(by show 0 < 1000;decide),?_⟩
  refine⟨_,rfl,_,rfl,x,C,dx,_,rfl,af,T.cl,T.ne,(by show 1 < 1000;decide),?_⟩
  rw[iw];intro dh qt;have nx:x≠dh:=aq af qt;refine⟨_,rfl,x,C,dx,_,rfl,by rw[ag nx];exact af,T.cl,T.nh,(by show 2 < 1000;decide),?_⟩
  refine⟨_,rfl,x,C,dx,_,rfl,af,T.cl,T.nm,(by show 3 < 1000;decide),?_⟩
  rw[iw,aaA];have ym:H dh=none:=by
   cases e:H dh with
   |none=>rfl
   |some u=>rw[ag (aN nx),e]at qt;cases qt
  have e:∀o o':HO,upd (upd (upd H x o) dh (.dT [])) x o'=upd (upd H dh (.dT [])) x o':=fun o o'=>by
   funext b
   by_cases h1:b=x
   ·subst h1;rw[af,af]
   ·rw[ag h1,ag h1]
    by_cases h2:b=dh
    ·subst h2;rw[af,af]
    ·rw[ag h2,ag h2,ag h1]
  rw[e];exact q dh ym
theorem aaB {c:Bool}{i0:Int}{tb:TE}{Q:VK} (iF:Nat->Prop) (h1:c=true -> ∃s:Nat,i0=s/\iF s) (h2:c=false->(∀s:Nat,iF s->Q (.int s) H)->tb σ H Q) (h3:∀s:Nat,iF s->Q (.int s) H):if c=true then tC (.int i0) σ H Q else tb σ H Q:=by
 cases c with
 |false=>exact h2 rfl h3
 |true =>
  obtain⟨s,e,hc⟩:=h1 rfl;show Q (.int i0) H;rw[e];exact h3 s hc
theorem Ei {b:Str} (h:b∈line):line[line.idxOf b]? = some b /\ ∀m,m < line.idxOf b->line[m]? ≠ some b:=by
 have hl:=Lw.mpr h;refine⟨by rw[b4 hl,V4],fun m hm z=>?_⟩
 obtain⟨mQ,e⟩:=cu.mp z;have:=List.not_of_lt_findIdx (p:=fun x=>x==b) (xs:=line) (i:=m) hm;simp[e]at this
theorem vY {bk:Bk}{n:Str}{l:List Str} (ok:mH bk):∀x d,ck bk n l=some (x,d)->Nm x/\Ent d:=fun x d h=>by
 have hm:=qN (vX h).2;exact⟨(ok.nm _ hm).1,ok.ent _ hm⟩
inductive Ai (C:Addr) (vs:List V) (H:Hp) (Q:VK) (E:XK):Prop
 |mk {x dx dl de dh a:Addr}{kl:List (Key×V)}{ke kh:List (List Key×V)}{m:Int}{bk:Bk}{kind name a7:Str}{line:List Str} (_:vs = [.ref x,.str kind,.str name,.str a7]) (_:FI C x dx dl de dh kl ke kh m bk H) (_:bo kl (Sum.inr kind)=some (.ref a)) (_:H a=some (.tup (line.map V.str))) (_:line.length<=200) (_:(a7 = "" \/ a7∈line)) (_:∀v m' H',(∀b u,b≠x->H b=some u->H' b=some u)->H' x=some (.ins C dx (fF dl de dh m'))->og H' v (ck bk name (cB line a7))->Q v H'):Ai C vs H Q E
abbrev nWk:List Str:= ["self","kind","name","behind","line","start","other"]
theorem A6:bF nWk ["self","kind","name","behind"] (aI uo):=bV (by decide +kernel)
theorem aaC (F:aY K "walk" "Finds.walk" uo f fd) (T:pR K mg C):aS P w K mg base aO 1 f fd ["self","kind","name","behind"] (Ai C):=by
 refine F.ok A6 (fun vs H Q E h=>?_) (fun aH A outer s H vs Q E hr h=>?_)
 ·obtain⟨rfl,_⟩:=h;rfl
 ·obtain @⟨x,dx,dl,de,dh,a,kl,ke,kh,m,bk,kind,name,a7,line,rfl,fi,ea,ha,hl,hb,q⟩:=h
  have hu:=hr.units;have bO:=iE hu;refine⟨_,aA (ba (i:=4) A6.nd rfl (Or.inl rfl) (jP bO (cF (pv 0) rfl) (pv 1) (fun _ _=>rfl)))
   (aA (ba (i:=5) A6.nd rfl (Or.inl rfl) (Yy (bK ly (pv 3) b9 (bQ _)) ay (cH lr (jq PySem.F.plainAttrs_tuple an0 PySem.F.type_tuple_index Ya (pv 4) (ae (pv 3) ah)) ay)))
   (aA (jR iR rfl (t4 (tM N3 (pv 4) (tU (pv 5)) tT)) (bp (i:=6) A6.nd rfl (Or.inl rfl))
    (aA (vF (pv 0) ay Ac)
    (aG (cf (mj (pF bO (bJ (ae (pv 6) (ae (pv 2) ah))) (cF (pv 0) rfl))) (aG (bz (bJ (ae (pv 6) (ae (jP bO (cF (pv 0) rfl) (bJ (ae (pv 6) (ae (pv 2) ah))) (fun _ _=>rfl)) ah))))) cO))))
   (aG (bz iy)))),?_⟩
  refine⟨_,rfl,x,C,dx,_,.ref dl,rfl,fi.hx,T.cl,T.nl,ND,_,rfl,dl,.ref a,rfl,.inl ⟨kl,Sum.inr kind,.inl fi.hl,rfl,ea.symm⟩,?_⟩;refine⟨_,rfl,rfl,_,rfl,?_⟩;refine aaB (fun s0=>cB line a7=line.drop s0) (fun e=>⟨0,rfl,?_⟩) (fun e k=>?_) ?_
  ·have e:=iQ e
   injection e with e;unfold cB;rw[ax e];rfl
  ·have bY:a7 ≠ "" :=fun z=>by rw[z]at e;exact absurd e (by rw[fY rfl];intro y;cases y)
   have hm:a7∈line:=hb.resolve_left bY;obtain⟨i1,i2⟩:=Ei hm;exact⟨_,rfl,.inr (.inr (.inr (.inr ⟨rfl,_,Rd.of ha⟩))),_,rfl,a,line,a7,line.idxOf a7,rfl,rfl,aE.of ha,i1,i2,_,_,rfl,rfl,k (line.idxOf a7+1) (by unfold cB;rw[aj bY])⟩
  intro s0 Si;refine⟨_,rfl,_,rfl,_,rfl,a,_,rfl,ha,fun sp H0 S0 gR=>?_⟩;rw[Ef,<-V0,<-Si]at gR;obtain⟨rest,Pb⟩:∃rest,cB line a7=rest:=⟨_,rfl⟩;rw[Pb]at gR q;have Tq:=S0 _ _ fi.hx;refine⟨sp,rfl,⟨_,aE.of gR⟩,ZF (xs:=rest.map V.str) (fun i σ H1=>∃ (m':Int) (v6:Option V),σ = [some (.ref x),some (.str kind),some (.str name),some (.str a7),some (.ref a),some (.int s0),v6]/\(∀b u,b≠x->H0 b=some u->H1 b=some u)/\H1 x=some (.ins C dx (fF dl de dh m')) /\ ∀y∈rest.take i,cy bk y name=none)
   ⟨m,none,rfl,fun b u _ e=>e,Tq,fun y hy=>(by cases hy)⟩ (fun i σ H1 _ ⟨_,_,_,z,_⟩=>aE.of (z _ _ (ao gR Tq (by intro y;cases y)) gR)) ?_ ?_⟩
  ·rintro i y σ H1 hy ⟨m',v6,rfl,kp,i9,no⟩
   have cD:i < rest.length:=by simpa using (cu.mp hy).1
   obtain rfl:V.str rest[i]=y:=by simpa [cD] using hy
   have gf:rest.take (i+1)=rest.take i ++ [rest[i]]:=by rw[eX,b4 cD];rfl
   refine⟨_,rfl,x,C,dx,_,.int m',rfl,i9,T.cl,T.nm,abu,_,_,rfl,rfl,dx,_,i9,by show 4 < 1000;decide,?_⟩
   rw[abt];have gK:∀b u,b≠x->H0 b=some u->upd H1 x (.ins C dx (fF dl de dh (m'+1))) b=some u:=fun b u n e=>by rw[ag n];exact kp b u n e
   have sh:upd H1 x (.ins C dx (fF dl de dh (m'+1))) x=some (.ins C dx (fF dl de dh (m'+1))):=af;generalize upd H1 x (.ins C dx (fF dl de dh (m'+1)))=H2 at gK sh ⊢;refine⟨_,rfl,_,rfl,cJ,fun kt jf=>?_⟩;have Sk:=ar (o:= .tup [V.str rest[i],V.str name]) jf;have yx:upd H2 kt (.tup [V.str rest[i],V.str name]) kt=some (.tup (([Sum.inr rest[i],Sum.inr name]:List Key).map kV)):=af;have jD:=Sk _ _ sh;have kW:∀b u,b≠x->H0 b=some u->upd H2 kt (.tup [V.str rest[i],V.str name]) b=some u:=fun b u n e=>Sk _ _ (gK b u n e);generalize upd H2 kt (.tup [V.str rest[i],V.str name])=H3 at Sk yx jD kW ⊢;have ned:de≠x:=ao fi.he fi.hx (by intro z;cases z)
   have Tr:H3 de=some (.dT ke):=kW _ _ ned (S0 _ _ fi.he);have D3:d4 H3 ke bk:=fi.du.keep (fun b xs e=>kW _ _ (ao e fi.hx (by intro z;cases z)) (S0 _ _ e)) fi.ok.ent
   refine⟨_,rfl,x,C,dx,_,.ref de,rfl,jD,T.cl,T.ne,Mc,de,_,rfl,cU.t (k:= [Sum.inr rest[i],Sum.inr name]) Tr yx,_,rfl,?_⟩;rcases D3.look (k:=rest[i]) (n:=name) fi.ok.nd with⟨l1,l2⟩|⟨v,d,l1,l2,l3⟩
   ·rw[l2]
    refine⟨m'+1,_,rfl,kW,jD,fun y hy=>?_⟩;rw[gf]at hy;rcases ee.mp hy with z|z
    ·exact no y z
    ·rw[dH.mp z];exact l1
   ·rw[l2]
    refine⟨_,rfl,_,rfl,x,C,dx,_,.ref de,rfl,jD,T.cl,T.ne,Mc,_,rfl,_,rfl,cJ,fun k2 hk2=>?_⟩;have S4:=ar (o:= .tup [V.str rest[i],V.str name]) hk2;have yy:upd H3 k2 (.tup [V.str rest[i],V.str name]) k2=some (.tup (([Sum.inr rest[i],Sum.inr name]:List Key).map kV)):=af;have Ts:=S4 _ _ Tr;have va:=S4 _ _ jD;have r4:=l3.same S4;have iq:∀b u,b≠x->H0 b=some u->upd H3 k2 (.tup [V.str rest[i],V.str name]) b=some u:=fun b u n e=>S4 _ _ (kW b u n e);generalize upd H3 k2 (.tup [V.str rest[i],V.str name])=H4 at S4 yy Ts va r4 iq ⊢;refine⟨de,v,rfl,by rw[<-l2];exact cU.t (k:= [Sum.inr rest[i],Sum.inr name]) Ts yy,cJ,fun t ht=>?_⟩
    have S5:=ar (o:= .tup [V.str rest[i],v]) ht;have ef:ck bk name rest=some (rest[i],d):=by
     conv=>lhs;rw[<-VD i rest,vp cD]
     rw[DP (x:=rest[i]) _ no];exact aax l1
    refine q (.ref t) (m'+1) _ (fun b u n e=>S5 _ _ (iq b u n (S0 _ _ e))) (S5 _ _ va) ?_;rw[ef];exact⟨t,v,rfl,af,r4.same S5⟩
  ·rintro σ H1 ⟨m',v6,rfl,kp,i9,no⟩
   rw[aJ,eK]at no;refine q .aF m' H1 (fun b u n e=>kp b u n (S0 _ _ e)) i9 ?_;have ef:ck bk name rest=none:=by
    have:=DP (x:=name) rest no [];rw[jM]at this;exact this
   rw[ef];rfl
def nQ (H:Hp) (kh:List (List Key×V)) (bk:Bk) (L:Str->List Str):Prop:= ∀k n b v,bo kh [Sum.inr k,Sum.inr n,Sum.inr b]=some v->og H v (ck bk n (cB (L k) b))
theorem nQ.keep {bk:Bk} (h:nQ H kh bk L) (ok:mH bk) (k:∀b xs,H b=some (.tup xs)->H' b=some (.tup xs)):nQ H' kh bk L:=fun a n b v e=>(h a n b v e).keep k fun x d z=>(vY ok x d z).2
inductive uf (C:Addr) (vs:List V) (H:Hp) (Q:VK) (E:XK):Prop
 |mk {x dx dl de dh:Addr}{kl:List (Key×V)}{ke kh:List (List Key×V)}{m:Int}{bk:Bk}{kind name a7:Str}{L:Str->List Str} (_:vs = [.ref x,.str kind,.str name,.str a7]) (_:FI C x dx dl de dh kl ke kh m bk H) (_:kc H kl L kind) (_:(L kind).length<=200) (_:(a7 = "" \/ a7∈L kind)) (_:nQ H kh bk L) (_:kh.length<=1000000) (_:∀v bA m' H',(∀b u,b≠x->b≠dh->H b=some u->H' b=some u)->FI C x dx dl de dh kl ke bA m' bk H'->nQ H' bA bk L->bA.length<=kh.length+1->og H' v (ck bk name (cB (L kind) a7))->Q v H'):uf C vs H Q E
abbrev nLk:List Str:= ["self","kind","name","behind","place"]
theorem QM:bF nLk ["self","kind","name","behind"] (aI um):=bV (by decide +kernel)
theorem aaD {fW:Addr}{dW:FuncData} (F:aY K "look" "Finds.look" um f fd) (T:pR K mg C) (GW:aS P w K mg base aO 1 fW dW ["self","kind","name","behind"] (Ai C)) (MW:Meth K C "walk" fW) (bW:Binds K dW ["self","kind","name","behind"] []):aS P w K mg base aO 2 f fd ["self","kind","name","behind"] (uf C):=by
 refine F.ok QM (fun vs H Q E h=>?_) (fun aH A outer s H vs Q E hr h=>?_)
 ·obtain⟨rfl,_⟩:=h;rfl
 ·obtain @⟨x,dx,dl,de,dh,kl,ke,kh,m,bk,kind,name,a7,L,rfl,fi,⟨a,ea,ha⟩,hl,hb,ho,Tt,q⟩:=h
  have hu:=hr.units;have bO:=iE hu;refine⟨_,aA (ba (i:=4) QM.nd rfl (Or.inl rfl) (bJ (ae (pv 1) (ae (pv 2) (ae (pv 3) ah)))))
   (aA (cf (mj (Mv bO (pv 4) (cF (pv 0) rfl))) (aG (lq bO (cF (pv 0) rfl) (pv 4) (ll (pv 0) T.cl MW GW hr bW .nil eF (ae (pv 1) (ae (pv 2) (ae (pv 3) ah)))) rfl)) cO)
   (aG (bz (jP bO (cF (pv 0) rfl) (pv 4) (fun _ _=>rfl))))),?_⟩
  refine⟨_,rfl,_,rfl,_,rfl,kQ,fun pt hpt=>?_⟩;have S1:=ar (o:= .tup [V.str kind,V.str name,V.str a7]) hpt;have mR:upd H pt (.tup [V.str kind,V.str name,V.str a7]) pt=some (.tup (([Sum.inr kind,Sum.inr name,Sum.inr a7]:List Key).map kV)):=af;generalize upd H pt (.tup [V.str kind,V.str name,V.str a7])=H1 at S1 mR ⊢;have iN:FI C x dx dl de dh kl ke kh m bk H1:=⟨S1 _ _ fi.hx,S1 _ _ fi.hl,S1 _ _ fi.he,S1 _ _ fi.hh,fi.du.same S1,fi.ok,fi.nn⟩;have oH:nQ H1 kh bk L:=ho.keep fi.ok fun b xs e=>S1 _ _ e;have Cw:x≠dh:=ao fi.hx fi.hh (by intro z;cases z)
  have nlh:dl≠dh:=ao fi.hl fi.hh (by intro z;cases z)
  refine⟨_,rfl,_,rfl,x,C,dx,_,.ref dh,rfl,iN.hx,T.cl,T.nh,zZ,dh,_,rfl,cU.t (k:= [Sum.inr kind,Sum.inr name,Sum.inr a7]) iN.hh mR,_,rfl,?_⟩;cases ev:bo kh [Sum.inr kind,Sum.inr name,Sum.inr a7] with
  |some v =>
   refine⟨_,rfl,x,C,dx,_,.ref dh,rfl,iN.hx,T.cl,T.nh,zZ,_,rfl,dh,v,rfl,by rw[<-ev];exact cU.t (k:= [Sum.inr kind,Sum.inr name,Sum.inr a7]) iN.hh mR,?_⟩
   exact q v kh m H1 (fun b u _ _ e=>S1 _ _ e) iN oH (jN _) (oH kind name a7 v ev)
  |none =>
   refine⟨_,rfl,x,dx,_,rfl,iN.hx,Fw (by decide +kernel) (by decide +kernel) (by decide +kernel) (by decide +kernel),_,rfl,_,rfl,_,rfl,Ai.mk rfl iN ea (S1 _ _ ha) hl hb fun v m' H2 gK sh ov2=>?_⟩
   have JQ:∀b xs,H1 b=some (.tup xs)->H2 b=some (.tup xs):=fun b xs e=>gK _ _ (ao e iN.hx (by intro z;cases z)) e
   have Tu:=gK _ _ (aN Cw) iN.hh;have jA:=JQ _ _ mR;have D2:d4 H2 ke bk:=iN.du.keep JQ fi.ok.ent;refine⟨_,rfl,x,C,dx,_,.ref dh,rfl,sh,T.cl,T.nh,zZ,_,rfl,dh,_,rfl,hZ.t (k:= [Sum.inr kind,Sum.inr name,Sum.inr a7]) Tu jA (by rw[aT];omega),?_⟩
   have JR:upd H2 dh (.dT (putK kh [Sum.inr kind,Sum.inr name,Sum.inr a7] v)) dh=some (.dT (putK kh [Sum.inr kind,Sum.inr name,Sum.inr a7] v)):=af;have kW:∀b u,b≠dh->H2 b=some u->upd H2 dh (.dT (putK kh [Sum.inr kind,Sum.inr name,Sum.inr a7] v)) b=some u:=fun b u n e=>by rw[ag n];exact e
   generalize upd H2 dh (.dT (putK kh [Sum.inr kind,Sum.inr name,Sum.inr a7] v))=H3 at JR kW ⊢;have qf:∀b xs,H2 b=some (.tup xs)->H3 b=some (.tup xs):=fun b xs e=>kW _ _ (ao e Tu (by intro z;cases z)) e
   have jD:=kW _ _ Cw sh;have fi3:FI C x dx dl de dh kl ke (putK kh [Sum.inr kind,Sum.inr name,Sum.inr a7] v) m' bk H3:=⟨jD,kW _ _ nlh (gK _ _ (ao iN.hl iN.hx (by intro z;cases z)) iN.hl),kW _ _ fi.nn (gK _ _ (ao iN.he iN.hx (by intro z;cases z)) iN.he),JR,D2.keep qf fi.ok.ent,fi.ok,fi.nn⟩
   have Tv:og H3 v (ck bk name (cB (L kind) a7)):=ov2.keep qf fun x d z=>(vY fi.ok x d z).2;have pZ:nQ H3 (putK kh [Sum.inr kind,Sum.inr name,Sum.inr a7] v) bk L:=fun k n b u e=>by
    rw[qS]at e
    by_cases z:([Sum.inr k,Sum.inr n,Sum.inr b]:List Key) = [Sum.inr kind,Sum.inr name,Sum.inr a7]
    ·rw[ax z]at e
     cases e
     injection z with z1 z;injection z with z2 z;injection z with z3 z;injection z1 with z1;injection z2 with z2;injection z3 with z3;rw[z1,z2,z3];exact Tv
    ·rw[aj z]at e
     exact((oH k n b u e).keep JQ fun x d z=>(vY fi.ok x d z).2).keep qf fun x d z=>(vY fi.ok x d z).2
   refine⟨_,rfl,x,C,dx,_,.ref dh,rfl,jD,T.cl,T.nh,zZ,_,rfl,dh,v,rfl,?_,?_⟩
   ·have:=cU.t (k:= [Sum.inr kind,Sum.inr name,Sum.inr a7]) JR (qf _ _ jA)
    rw[qS,ax rfl]at this;exact this
   ·exact q v _ m' H3 (fun b u n1 n2 e=>kW _ _ n2 (gK _ _ n1 (S1 _ _ e))) fi3 pZ (tD _ _ _) Tv
structure FB (H:Hp) (t tb:Addr) (o:Obj) (ws wb:List V) (aQ:List (Str×List Str)) (L:Str->List Str) (bk:Bk):Prop where
 ht:H t=some (.cq o (.tup ws))
 od:o.dict=none
 fv:eO H ws aQ
 fo:pI aQ L
 hb:H tb=some (.tup wb)
 bv:dZ H wb bk
 ok:mH bk
theorem FB.same {t tb:Addr}{bk:Bk} (h:FB H t tb o ws wb aQ L bk) (S:aB H H'):FB H' t tb o ws wb aQ L bk:=
 ⟨S _ _ h.ht,h.od,h.fv.same S,h.fo,S _ _ h.hb,dZ.same S h.bv,h.ok⟩
theorem FB.aX {t tb:Addr}{bk:Bk} (h:FB H t tb o ws wb aQ L bk) {k:Str} (hk:k∈aQ.map (·.1)):(L k).length<=200:=by
 obtain⟨p,hp,rfl⟩:=br.mp hk;obtain⟨_,q,_,e,hl⟩:=h.fo.line p hp;rw[e,d7];omega
inductive A7 (C:Addr) (vs:List V) (H:Hp) (Q:VK) (E:XK):Prop
 |mk {t tb:Addr}{o:Obj}{ws wb:List V}{aQ:List (Str×List Str)}{L:Str->List Str}{bk:Bk} (_:vs = [.ref t,.ref tb]) (_:FB H t tb o ws wb aQ L bk) (_:∀x dx dl de dh kl ke H',aB H H'->FI C x dx dl de dh kl ke [] 0 bk H'->(∀p∈aQ,kc H' kl L p.1)->H x=none->H dh=none->Q (.ref x) H'):A7 C vs H Q E
theorem aeb:bF ["family","book"] ["family","book"] (aI Ec):=bV (by decide +kernel)
theorem acA (F:aY K "finds_in" "finds_in" Ec f fd) (T:pR K mg C)
  (GL:dq P w K mg base aO 5 fL dL ["family"] zY "lines_of")
  (GE:dq P w K mg base aO 1 fE dE ["book"] A2 "entries_by_place")
  (M:Mk K C fI) (GI:aS P w K mg base aO 1 fI dI ["self","lines","entries"] (AG C)) (bI:Binds K dI ["self","lines","entries"] []):aS P w K mg base aO 6 f fd ["family","book"] (A7 C):=by
 refine F.ok aeb (fun vs H Q E h=>?_) (fun aH A outer s H vs Q E hr h=>?_)
 ·obtain⟨rfl,_⟩:=h;rfl
 ·obtain @⟨t,tb,o,ws,wb,aQ,L,bk,rfl,fb,q⟩:=h
  have yz:bb 5 _:=hr;have d6:bb 2 _:=yz.mono (by decide)
  have bZ:bb 1 _:=yz.mono (by decide)
  refine⟨_,aG (bz (Es M GI d6 rfl T.yw bI .nil eF (ae (cQ GL yz (ae (pv 0) ah)) (ae (cQ GE bZ (ae (pv 1) ah)) ah)))),?_⟩;refine⟨_,rfl,zY.mk rfl fb.ht fb.fv fb.fo fun dl kl H1 hdl S1 h1 ln1 _=>?_⟩;have JS:=fb.same S1;refine⟨_,rfl,A2.mk rfl JS.hb JS.bv JS.ok fun de ke H2 Tw S2 h2 D2=>?_⟩;intro x dx hx qu ne;have Sa:=ar (o:= .own x) qu;have di:upd H2 dx (.own x) x=none:=by rw[ag (aN ne)];exact hx
  have Sb:=Sa.trans (ar (o:= .ins C dx []) di);have jD:upd (upd H2 dx (.own x)) x (.ins C dx []) x=some (.ins C dx []):=af;have xe:∀b u,b≠x->upd (upd H2 dx (.own x)) x (.ins C dx []) b=some u->True:=fun _ _ _ _=>trivial;generalize upd (upd H2 dx (.own x)) x (.ins C dx [])=H3 at Sb jD ⊢;refine AG.mk rfl jD fun dh qt=>⟨rfl,?_⟩;have Sc:=ar (o:= .dT []) qt;have Cw:x≠dh:=aq jD qt;have Tx:upd H3 dh (.dT []) dh=some (.dT []):=af;generalize upd H3 dh (.dT [])=H4 at Sc Tx ⊢;have jg:=S1.trans S2;have lU:=Sb.trans Sc;have yA:∀b u,H2 b=some u->upd H4 x (.ins C dx (fF dl de dh 0)) b=some u:=fun b u e=>by rw[ag (aq e hx)];exact lU _ _ e
  refine q x dx dl de dh kl ke _ (fun b u e=>yA _ _ (jg _ _ e)) ⟨af,yA _ _ (S2 _ _ h1),yA _ _ h2,by rw[ag (aN Cw)];exact Tx,D2.same yA,fb.ok,?_⟩ (fun p hp=>(ln1 p hp).same fun b u e=>yA _ _ (S2 _ _ e)) (jg.free hx) ((jg.trans Sb).free qt)
  exact aq (Sb _ _ h2) qt
abbrev Own:=List (Str×Int)
abbrev Ask:=Str×Str
inductive Rs where
 |told (z:Int):Rs
 |miss (n:Str):Rs
def b7:PyData->Str|.tuple (.str s::_)=>s|_ => ""
def rO:PyData->Int|.tuple [_,.int n]=>n|_=>0
def uB:PyData->Str|.tuple [_,.str x]=>x|_ => ""
def iA:PyData->List PyData
 |.tuple [_,.tuple ds]=>ds
 |.tuple [_,.str x,.int n]=>[.tuple [.str "ask",.str x],.tuple [.str "add",.int n]]
 |.tuple [_,.int n]=>[.tuple [.str "add",.int n]]
 |_=>[]
def wm (d:PyData):Bool:=decide (b7 d = "ahead" \/ b7 d = "shut")
structure aZ where
 line:List Str
 bk:Bk
 own:Own
namespace aZ
variable (W:aZ)
def look (a:Ask):Option (Str×PyData):=ck W.bk a.1 (cB W.line a.2)
def qv (a:Ask):Bool:=match W.look a with|none=>true|some p=>!wm p.2
def j0 (a:Ask):Option Int:=if a.2 = "" /\ W.qv a=true then W.own.lookup a.1 else none
def need (n w:Str) (d:PyData):Option Ask:=if b7 d = "ask" then some (uB d,"") else if b7 d = "onward" then (if (W.look (n,w)).isSome then some (n,w) else none) else none
end aZ
def stepT (t:Int) (d:PyData):Int:=if b7 d = "add" then t+rO d else if b7 d = "times" then t * rO d else t
def aZ.kf (W:aZ) (f:Ask->Option Rs) (n w:Str):List PyData->Int->Option Rs
 |[],t=>some (.told t)
 |d::ds,t=>match W.need n w d with
  |none=>W.kf f n w ds (stepT t d)
  |some b=>match f b with
   |none=>none
   |some (.miss m)=>some (.miss m)
   |some (.told z)=>W.kf f n w ds (t+z)
def aZ.kE (W:aZ) (f:Ask->Option Rs) (a:Ask):Option Rs:=match W.j0 a with
 |some z=>some (.told z)
 |none=>match W.look a with
  |none=>some (.miss a.1)
  |some (w,d)=>W.kf f a.1 w (iA d) 0
def aZ.out (W:aZ):Nat->Ask->Option Rs
 |0,_=>none
 |k+1,a=>W.kE (W.out k) a
def aZ.Out (W:aZ) (a:Ask) (r:Rs):Prop:= ∃k,W.out k a=some r
section
variable{W:aZ}{f g:Ask->Option Rs}{n w:Str}
theorem zR (h:∀a r,f a=some r->g a=some r):∀ {ds:List PyData}{t:Int}{r:Rs},W.kf f n w ds t=some r->W.kf g n w ds t=some r
 |[],t,r,e=>e
 |d::ds,t,r,e=>by
  unfold aZ.kf at e ⊢;cases hn:W.need n w d with
  |none=>rw[hn]at e;exact zR h e
  |some b =>
   rw[hn]at e
   dsimp only at e ⊢
   cases hf:f b with
   |none=>rw[hf]at e;cases e
   |some x =>
    have hg:=h b x hf;rw[hg];rw[hf]at e;cases x with
    |miss m=>exact e
    |told z=>exact zR h e
theorem XB (h:∀a r,f a=some r->g a=some r) {a:Ask}{r:Rs} (e:W.kE f a=some r):W.kE g a=some r:=by
 unfold aZ.kE at e ⊢;cases ho:W.j0 a with
 |some z=>rw[ho]at e;exact e
 |none =>
  rw[ho]at e;cases hl:W.look a with
  |none=>rw[hl]at e;exact e
  |some p=>rw[hl]at e;exact zR h e
theorem NF:∀ {k:Nat}{a:Ask}{r:Rs},W.out k a=some r->W.out (k+1) a=some r
 |0,_,_,h=>by cases h
 |k+1,_,_,h=>XB (fun _ _=>NF) h
theorem Aj {k m:Nat}{a:Ask}{r:Rs} (hk:k<=m) (h:W.out k a=some r):W.out m a=some r:=by
 induction hk with
 |refl=>exact h
 |step _ ih=>exact NF ih
theorem Out.uniq {a:Ask}{r r':Rs} (h:W.Out a r) (h':W.Out a r'):r=r':=by
 obtain⟨k,hk⟩:=h;obtain⟨m,hm⟩:=h';rcases Nat.le_total k m with z|z
 ·have:=Aj z hk;rw[hm]at this;exact(gA this).symm
 ·have:=Aj z hm;rw[hk]at this;exact gA this
theorem Out.own {a:Ask} (h:W.j0 a=some z):W.Out a (.told z):=⟨1,by show W.kE _ a=_;unfold aZ.kE;rw[h]⟩
theorem Out.none {a:Ask} (h:W.j0 a=none) (hl:W.look a=none):W.Out a (.miss a.1):=⟨1,by show W.kE _ a=_;unfold aZ.kE;rw[h,hl]⟩
structure cj where
 a:Ask
 w:Str
 left:List PyData
 t:Int
structure df (W:aZ) (f:cj):Prop where
 up:∀k r,W.kf (W.out k) f.a.1 f.w f.left f.t=some r->W.Out f.a r
 dn:∀k r,W.out (k+1) f.a=some r->W.kf (W.out k) f.a.1 f.w f.left f.t=some r
theorem df.new {a:Ask}{w:Str}{d:PyData} (h:W.j0 a=none) (hl:W.look a=some (w,d)):df W ⟨a,w,iA d,0⟩:=by
 have e:∀k,W.out (k+1) a=W.kf (W.out k) a.1 w (iA d) 0:=fun k=>by show W.kE _ a=_;unfold aZ.kE;rw[h,hl]
 exact⟨fun k r z=>⟨k+1,(e k).trans z⟩,fun k r z=>(e k).symm.trans z⟩
theorem df.step {f:cj}{d:PyData}{ds:List PyData} (h:df W f) (e:f.left=d::ds) (hn:W.need f.a.1 f.w d=none):df W ⟨f.a,f.w,ds,stepT f.t d⟩:=by
 have e1:∀k,W.kf (W.out k) f.a.1 f.w f.left f.t=W.kf (W.out k) f.a.1 f.w ds (stepT f.t d):=fun k=>by rw[e];show(match W.need f.a.1 f.w d with|none=>_|some b=>_)=_;rw[hn]
 exact⟨fun k r z=>h.up k r ((e1 k).trans z),fun k r z=>(e1 k).symm.trans (h.dn k r z)⟩
theorem z6 {fo:Ask->Option Rs}{d:PyData}{ds:List PyData}{t:Int}{b:Ask} (hn:W.need n w d=some b):W.kf fo n w (d::ds) t=match fo b with|none=>none|some (.miss m)=>some (.miss m)|some (.told z)=>W.kf fo n w ds (t+z):=by
 show(match W.need n w d with|none=>_|some b=>_)=_;rw[hn]
theorem df.take {f:cj}{d:PyData}{ds:List PyData}{b:Ask} (h:df W f) (e:f.left=d::ds) (hn:W.need f.a.1 f.w d=some b) (ho:W.Out b (.told z)):df W ⟨f.a,f.w,ds,f.t+z⟩:=by
 obtain⟨m,hm⟩:=ho;refine⟨fun k r y=>h.up (max k m) r ?_,fun k r y=>?_⟩
 ·rw[e,z6 hn,Aj (VR k m) hm]
  exact zR (fun _ _ q=>Aj (VQ k m) q) y
 ·have y':=h.dn k r y
  rw[e,z6 hn]at y';cases hb:W.out k b with
  |none=>rw[hb]at y';cases y'
  |some x =>
   have:=Out.uniq (W:=W) ⟨k,hb⟩ ⟨m,hm⟩;subst this;rw[hb]at y';exact y'
theorem df.miss {f:cj}{d:PyData}{ds:List PyData}{b:Ask}{m:Str} (h:df W f) (e:f.left=d::ds) (hn:W.need f.a.1 f.w d=some b) (ho:W.Out b (.miss m)):W.Out f.a (.miss m):=by
 obtain⟨k,hk⟩:=ho;exact h.up k _ (by rw[e,z6 hn,hk])
theorem df.done {f:cj} (h:df W f) (e:f.left = []):W.Out f.a (.told f.t):=h.up 0 _ (by rw[e];rfl)
theorem df.Pd {f:cj}{d:PyData}{ds:List PyData}{b:Ask} (h:df W f) (e:f.left=d::ds) (hn:W.need f.a.1 f.w d=some b) {k:Nat}{r:Rs} (ho:W.out (k+1) f.a=some r):∃r',W.out k b=some r':=by
 have y:=h.dn k r ho;rw[e,z6 hn]at y;cases hb:W.out k b with
 |none=>rw[hb]at y;cases y
 |some x=>exact⟨x,rfl⟩
def uu (W:aZ) (f:cj):Option Ask:=match f.left with | []=>none|d::_=>W.need f.a.1 f.w d
def Chain (W:aZ):List cj->Ask->Prop
 |[],_=>True
 |[f],b=>uu W f=some b
 |f::g::r,b=>uu W f=some g.a/\Chain W (g::r) b
theorem zw {W:aZ}{f:cj}{b:Ask} (h:uu W f=some b):∃d ds,f.left=d::ds/\W.need f.a.1 f.w d=some b:=by
 unfold uu at h;cases e:f.left with
 |nil=>rw[e]at h;cases h
 |cons d ds=>rw[e]at h;exact⟨d,ds,rfl,h⟩
theorem Md {m:Str}:∀ {fs:List cj}{b a:Ask},(∀f∈fs,df W f)->Chain W fs b->(fs.head?.map (·.a)).getD b=a->W.Out b (.miss m)->W.Out a (.miss m)
 |[],b,a,_,_,e,ho=>by cases e;exact ho
 |[f],b,a,ok,c,e,ho=>by
  cases e
  obtain⟨d,ds,e1,e2⟩:=zw c;exact(ok f aW).miss e1 e2 ho
 |f::g::r,b,a,ok,c,e,ho=>by
  cases e
  obtain⟨d,ds,e1,e2⟩:=zw c.1;exact(ok f aW).miss e1 e2 (Md (fun x hx=>ok x (bq _ hx)) c.2 rfl ho)
theorem DQ:∀ {fs:List cj}{b:Ask},(∀f∈fs,df W f)->Chain W fs b -> ∀ {f:cj}{k:Nat}{r:Rs},fs.head? = some f->W.out k f.a=some r -> ∃k' r',k' < k/\W.out k' b=some r'
 |[],_,_,_,_,_,_,h,_=>by cases h
 |[f],b,ok,c,_,k,r,h,ho=>by
  cases h
  obtain⟨d,ds,e1,e2⟩:=zw c;cases k with
  |zero=>cases ho
  |succ k=>obtain⟨r',hr⟩:=(ok f aW).Pd e1 e2 ho;exact⟨k,r',qG _,hr⟩
 |f::g::l,b,ok,c,_,k,r,h,ho=>by
  cases h
  obtain⟨d,ds,e1,e2⟩:=zw c.1;cases k with
  |zero=>cases ho
  |succ k =>
   obtain⟨r',hr⟩:=(ok f aW).Pd e1 e2 ho;obtain⟨k',r'',hk,ig⟩:=DQ (fun x hx=>ok x (bq _ hx)) c.2 rfl hr;exact⟨k',r'',qK hk,ig⟩
theorem Zp {fs:List cj}{f:cj}{b:Ask} (ok:∀f∈fs,df W f) (c:Chain W fs b) (h:fs.head? = some f) (e:f.a=b):∀k,W.out k b=none:=by
 intro k
 induction k using Nat.strongRecOn with
 |_ k ih =>
  cases ho:W.out k b with
  |none=>rfl
  |some r =>
   obtain⟨k',r',hk,hr⟩:=DQ ok c h (e ▸ ho);rw[ih k' hk]at hr;cases hr
theorem Me:∀ {fs gs:List cj}{b:Ask},Chain W (fs++gs) b->Chain W gs b
 |[],_,_,c=>c
 |[f],[],_,_=>trivial
 |[f],g::gs,b,c=>c.2
 |f::g::r,gs,b,c=>Me (fs:=g::r) c.2
theorem XC:∀ {fs:List cj}{b a:Ask},(∀f∈fs,df W f)->Chain W fs b->(fs.head?.map (·.a)).getD b=a->(∀k,W.out k b=none) -> ∀k,W.out k a=none
 |[],b,a,_,_,e,ho,k=>by cases e;exact ho k
 |f::l,b,a,ok,c,e,ho,k=>by
  cases e
  cases hk:W.out k f.a with
  |none=>exact hk
  |some r =>
   obtain⟨k',r',_,hr⟩:=DQ ok c rfl hk;rw[ho k']at hr;cases hr
end
abbrev Th:=Str×Str×Own
def oh (H:Hp) (vs:List V) (own:Own):Prop:=Paired (fun v q=>∃c,v=V.ref c/\H c=some (.tup [.str q.1,.int q.2])) vs own
def oi (H:Hp) (vs:List V) (aU:List Th):Prop:=Paired (fun v p=>∃a b us,v=V.ref a/\H a=some (.tup [.str p.1,.str p.2.1,.ref b])/\H b=some (.tup us)/\oh H us p.2.2) vs aU
theorem oh.keep {own:Own} (h:oh H vs own) (k:∀b xs,H b=some (.tup xs)->H' b=some (.tup xs)):oh H' vs own:=Paired.imp' (fun _ _ ⟨c,e,q⟩=>⟨c,e,k _ _ q⟩) h
theorem oi.keep {aU:List Th} (h:oi H vs aU) (k:∀b xs,H b=some (.tup xs)->H' b=some (.tup xs)):oi H' vs aU:=Paired.imp' (fun _ _ ⟨a,b,us,e,q,r,o⟩=>⟨a,b,us,e,k _ _ q,k _ _ r,o.keep k⟩) h
theorem oi.same {aU:List Th} (h:oi H vs aU) (S:aB H H'):oi H' vs aU:=h.keep fun _ _ e=>S _ _ e
structure oN (H:Hp) (w t tb tt:Addr) (wt:List V) (aU:List Th):Prop where
 hw:H w=some (.tup [.ref t,.ref tb,.ref tt])
 ht:H tt=some (.tup wt)
 tv:oi H wt aU
 aX:aU.length<=5
 nm:∀p∈aU,Nm p.1
 nd:(aU.map (·.1)).Nodup
theorem oN.same {w t tb:Addr}{aU:List Th} (h:oN H w t tb tt wt aU) (S:aB H H'):oN H' w t tb tt wt aU:=⟨S _ _ h.hw,S _ _ h.ht,h.tv.same S,h.aX,h.nm,h.nd⟩
inductive A8 (vs:List V) (H:Hp) (Q:VK) (E:XK):Prop
 |mk {x t tb tt:Addr}{wt:List V}{aU:List Th}{th:Str} (_:vs = [.ref x,.str th]) (_:oN H x t tb tt wt aU) (_:Nm th) (_:∀H',aB H H'->Q (.bl (decide (th∈aU.map (·.1)))) H'):A8 vs H Q E
theorem aec:bF ["world","thing"] ["world","thing"] (aI vP):=bV (by decide +kernel)
def Pe (e:Expr):Expr:=match e with|.Compare _ _ (r::_) _=>r|_=>.Constant .none 0 ⟨0,0,0,0⟩
abbrev eIt:Expr:=Pe (ON (AW (cG (bH vP) 0)) 1)
theorem QN:cK ["world","thing"] (aI vP) ["triple"] [none] (eg eIt):=gi (by decide +kernel)
theorem acB (F:aY K "is_thing" "is_thing" vP f fd) (GN:dq P w K mg base aO 1 fN dN ["thing"] ud "is_name"):aS P w K mg base aO 2 f fd ["world","thing"] A8:=by
 refine F.ok aec (fun vs H Q E h=>?_) (fun aH A outer s H vs Q E hr h=>?_)
 ·obtain⟨rfl,_⟩:=h;rfl
 ·obtain @⟨x,t,tb,tt,wt,aU,th,rfl,h,n,q⟩:=h
  refine⟨_,aG (bz (Ow (cQ GN hr (ae (pv 1) ah)) (Ov (qV tH (pv 1) (gM rfl QN (t4 (a6 cx (pv 0) ay (fun _ _=>rfl))) (fun s H fp=>⟨bp (i:=0) QN.nd rfl (Or.inl rfl),hJ,a6 (zJ K rfl) (pv 0) ay (fun _ _=>rfl)⟩)) rfl)))),?_⟩;refine⟨_,rfl,ud.mk rfl n fun H1 S1=>⟨true,rfl,ite_tt rfl ?_⟩⟩;have h1:=h.same S1;have aX:=h.aX;have hlen:=gZ h.tv;refine⟨_,rfl,_,rfl,x,_,2,_,rfl,rfl,aE.of h1.hw,A1,tt,rfl,⟨_,aE.of h1.ht⟩,fun c hc=>?_⟩;refine vM (xs:=wt) (fun i ys τ H2=>∃t0:Option V,τ = [t0]/\aB H1 H2/\H2 c=some (.lst ys)/\ys=((aU.take i).map (·.1)).map V.str) ⟨none,rfl,ar hc,af,rfl⟩ (fun i ys τ H2 ⟨_,_,z1,z2,_⟩=>⟨z2,aE.of (z1 _ _ h1.ht)⟩) ?_ ?_
  ·rintro i y ys τ H2 hy ⟨t0,rfl,S2,h2,rfl⟩
   have b6:i < wt.length:=(cu.mp hy).1;obtain⟨p,hp,a,b,us,rfl,ha,_⟩:=L2.Paired.get (h1.tv.same S2) hy;refine⟨_,rfl,a,_,0,_,rfl,rfl,aE.of ha,gn,h2,by rw[aJ,aJ,eJ,aT];omega,cw_next b6 ⟨_,rfl,fun b o e=>by rw[ag (aq e hc)];exact S2 _ _ e,af,?_⟩⟩
   rw[eX,hp,bB,bB];rfl
  ·rintro ys τ H2 ⟨t0,rfl,S2,h2,rfl⟩
   rw[hlen,eK]at h2;refine⟨c,_,rfl,.inl (ak.of h2),rfl,qP _,?_⟩;rw[aj cw,qR];exact q _ (S1.trans S2)
inductive A9 (vs:List V) (H:Hp) (Q:VK) (E:XK):Prop
 |mk {x t tb tt:Addr}{wt:List V}{aU:List Th}{th:Str} (_:vs = [.ref x,.str th]) (_:oN H x t tb tt wt aU) (_:th∈aU.map (·.1)) (_:∀H',aB H H'->Q .aF H'):A9 vs H Q E
theorem aed:bF ["world","thing"] ["world","thing"] (aI EG):=bV (by decide +kernel)
theorem acC (F:aY K "check_thing" "check_thing" EG f fd) (GI:dq P w K mg base aO 2 fI dI ["world","thing"] A8 "is_thing"):aS P w K mg base aO 3 f fd ["world","thing"] A9:=by
 refine F.ok aed (fun vs H Q E h=>?_) (fun aH A outer s H vs Q E hr h=>?_)
 ·obtain⟨rfl,_⟩:=h;rfl
 ·obtain @⟨x,t,tb,tt,wt,aU,th,rfl,h,hm,q⟩:=h
  refine⟨_,aG (cf (pB (pA (cQ GI hr (ae (pv 0) (ae (pv 1) ah))))) zx cO),?_⟩;obtain⟨p,hp,e⟩:=br.mp hm;refine⟨_,rfl,_,rfl,A8.mk rfl h (e ▸ h.nm p hp) fun H1 S1=>⟨true,?_,q H1 S1⟩⟩;rw[fY hm]
def Cy (H:Hp) (vs:List V) (aU:List Th):Prop:=Paired (fun v p=>∃r b us,v=V.ref r/\H r=some (.tup [.str p.2.1,.ref b])/\H b=some (.tup us)/\oh H us p.2.2) vs aU
theorem Cy.keep {aU:List Th} (h:Cy H vs aU) (k:∀b xs,H b=some (.tup xs)->H' b=some (.tup xs)):Cy H' vs aU:=Paired.imp' (fun _ _ ⟨a,b,us,e,q,r,o⟩=>⟨a,b,us,e,k _ _ q,k _ _ r,o.keep k⟩) h
inductive Ba (vs:List V) (H:Hp) (Q:VK) (E:XK):Prop
 |mk {x t tb tt:Addr}{wt:List V}{aU:List Th}{th:Th} (_:vs = [.ref x,.str th.1]) (_:oN H x t tb tt wt aU) (_:th∈aU) (_:∀r b us H',aB H H'->H' r=some (.tup [.str th.2.1,.ref b])->H' b=some (.tup us)->oh H' us th.2.2->Q (.ref r) H'):Ba vs H Q E
theorem aee:bF ["world","thing"] ["world","thing"] (aI vQ):=bV (by decide +kernel)
def aef (e:Expr):Expr:=match e with|.Subscript o _ _=>o|_=>.Constant .none 0 ⟨0,0,0,0⟩
abbrev eKo:Expr:=aef (AW (cG (bH vQ) 1))
theorem QO:cK ["world","thing"] (aI vQ) ["triple","thing"] [none,some 1] (eg eKo):=gi (by decide +kernel)
theorem acD {aU:List Th} (nd:(aU.map (·.1)).Nodup) {p q:Th} (hp:p∈aU) (hq:q∈aU) (e:p.1=q.1):p=q:=by
 induction aU with
 |nil=>cases hp
 |cons x aU ih =>
  rw[fX,g8]at nd;rcases bj.mp hp with h1|ij
  ·rcases bj.mp hq with h2|oB
   ·rw[h1,h2]
   ·exact absurd (br.mpr ⟨q,oB,by rw[<-e,h1]⟩) nd.1
  ·rcases bj.mp hq with h2|oB
   ·exact absurd (br.mpr ⟨p,ij,by rw[e,h2]⟩) nd.1
   ·exact ih nd.2 ij oB
theorem acE {fC:Addr}{dC:FuncData} (F:aY K "kind_and_own" "kind_and_own" vQ f fd) (GC:dq P w K mg base aO 3 fC dC ["world","thing"] A9 "check_thing"):aS P w K mg base aO 4 f fd ["world","thing"] Ba:=by
 refine F.ok aee (fun vs H Q E h=>?_) (fun aH A outer s H vs Q E hr h=>?_)
 ·obtain⟨rfl,_⟩:=h;rfl
 ·obtain @⟨x,t,tb,tt,wt,aU,th,rfl,h,hm,q⟩:=h
  refine⟨_,aA (gG (cQ GC hr (ae (pv 0) (ae (pv 1) ah))))
   (aG (bz (a6 fJ (gM rfl QO (t4 (a6 cx (pv 0) ay (fun _ _=>rfl))) (fun s H fp=>⟨bp (i:=0) QO.nd rfl (Or.inl rfl),pj (bK ly (a6 (zJ K rfl) (pv 0) ay (fun _ _=>rfl)) (pv 1) (bQ _)),tM N3 (pv 0) (tU ay) tT⟩)) ay (fun _ _=>rfl)))),?_⟩
  refine⟨_,rfl,_,rfl,A9.mk rfl h (br.mpr ⟨th,hm,rfl⟩) fun H1 S1=>?_⟩;have h1:=h.same S1;have aX:=h.aX;have hlen:=gZ h.tv;refine⟨_,rfl,x,_,2,_,rfl,rfl,aE.of h1.hw,A1,tt,rfl,⟨_,aE.of h1.ht⟩,fun c hc=>?_⟩;refine vM (xs:=wt) (fun i ys τ H2=>∃t0:Option V,τ = [t0,some (.str th.1)]/\aB H1 H2/\H2 c=some (.lst ys)/\Cy H2 ys ((aU.take i).filter fun p=>decide (p.1=th.1))) ⟨none,rfl,ar hc,af,.nil⟩ (fun i ys τ H2 ⟨_,_,z1,z2,_⟩=>⟨z2,aE.of (z1 _ _ h1.ht)⟩) ?_ ?_
  ·rintro i y ys τ H2 hy ⟨t0,rfl,S2,h2,K2⟩
   have b6:i < wt.length:=(cu.mp hy).1;obtain⟨p,hp,a,b,us,rfl,ha,hb,ow⟩:=L2.Paired.get (h1.tv.same S2) hy;have tk:aU.take (i+1)=aU.take i ++ [p]:=by rw[eX,hp];rfl
   have yl:=gZ K2;have fl:((aU.take i).filter fun p=>decide (p.1=th.1)).length<=(aU.take i).length:=nJ _ _;rw[eJ]at fl;refine⟨_,rfl,a,_,0,_,rfl,rfl,aE.of ha,gn,_,rfl,rfl,_,rfl,?_⟩;refine c7 (fun e=>?_) (fun e=>?_)
   ·have e:p.1=th.1:=by
     have:=iQ e;injection this
    refine⟨_,rfl,1,rfl,a,_,rfl,ha,fun r H3 S3 h3=>?_⟩;have h3:H3 r=some (.tup [.str p.2.1,.ref b]):=h3;have sA:=S3 _ _ h2;have up:∀ {zs:List V} b xs,H3 b=some (.tup xs)->upd H3 c (.lst zs) b=some (.tup xs):=fun b xs e=>by rw[ag (ao e sA (by intro z;cases z))];exact e
    refine⟨sA,by rw[aT];omega,cw_next b6 ⟨_,rfl,fun b o e=>by rw[ag (aq e hc)];exact S3 _ _ (S2 _ _ e),af,?_⟩⟩
    rw[tk,nK,zo (by simp[e])]
    exact qJ ((K2.keep fun b xs e=>S3 _ _ e).keep up) ⟨r,b,us,rfl,up _ _ h3,up _ _ (S3 _ _ hb),(ow.keep fun b xs e=>S3 _ _ e).keep up⟩
   ·have e : ¬ p.1=th.1:=fun z=>e (fY (by rw[z]))
    refine cw_next b6 ⟨_,rfl,S2,h2,?_⟩;rw[tk,nK,Dn (by simp[e])]
    simpa using K2
  ·rintro ys τ H2 ⟨t0,rfl,S2,h2,K2⟩
   rw[hlen,eK]at K2;have j9:th∈aU.filter fun p=>decide (p.1=th.1):=kz.mpr ⟨hm,fY rfl⟩;generalize hf:(aU.filter fun p=>decide (p.1=th.1))=fl at K2 j9;cases K2 with
   |nil=>cases j9
   |@cons v p vs fs hv _ =>
    have hp:p∈aU.filter fun p=>decide (p.1=th.1):=by rw[hf];exact aW
    obtain⟨mR,jA⟩:=kz.mp hp;obtain rfl:=acD h.nd mR hm (iQ jA);obtain⟨r,b,us,rfl,ig,hb,ow⟩:=hv;exact⟨c,_,0,.ref r,rfl,rfl,ak.of h2,gn,q r b us H2 (S1.trans S2) ig hb ow⟩
def fW (fi ow kp kn:Addr) (kd:Str) (bg:Int):List (Str×V):= [("finds",.ref fi),("kind",.str kd),("own",.ref ow),("kept",.ref kp),("known",.ref kn),("begun",.int bg)]
section
variable{fi ow kp kn:Addr}{kd:Str}
theorem aaE:cg "begun" (.int 0) (cg "known" (.ref kn) (cg "kept" (.ref kp) (cg "own" (.ref ow) (cg "kind" (.str kd) (cg "finds" (.ref fi) [])))))=fW fi ow kp kn kd 0:=rfl
theorem Ej:(fW fi ow kp kn kd bg).lookup ("finds" : Str)=some (V.ref fi):=rfl
theorem EJ:(fW fi ow kp kn kd bg).lookup ("kind" : Str)=some (V.str kd):=rfl
theorem OP:(fW fi ow kp kn kd bg).lookup ("own" : Str)=some (V.ref ow):=rfl
theorem nN:(fW fi ow kp kn kd bg).lookup ("known" : Str)=some (V.ref kn):=rfl
theorem aaF:(fW fi ow kp kn kd bg).lookup ("forebears" : Str)=none:=rfl
theorem aaG:(fW fi ow kp kn kd bg).lookup ("tell" : Str)=none:=rfl
end
structure lE (K:Frag) (mg:Str->Option Value) (C:Addr):Prop where
 cl:jy K C
 nf:f6 K C "finds"
 nk:f6 K C "kind"
 no:f6 K C "own"
 np:f6 K C "kept"
 nn:f6 K C "known"
 nb:f6 K C "begun"
 yw:mg "Whole" = some (.ref C)
inductive AH (C:Addr) (vs:List V) (H:Hp) (Q:VK) (E:XK):Prop
 |mk {x fi ow kp dx:Addr}{kd:Str} (_:vs = [.ref x,.ref fi,.str kd,.ref ow,.ref kp]) (_:H x=some (.ins C dx [])) (_:H kp=some (.dT [])) (_:∀kn,H kn=none->Q .aF (upd (upd H kn (.dT [])) x (.ins C dx (fW fi ow kp kn kd 0)))):AH C vs H Q E
abbrev xj:List Str:= ["self","finds","kind","own","kept"]
theorem acF:bF xj xj (aI t9):=bV (by decide +kernel)
theorem abw (F:aY K "__init__" "Whole.__init__" t9 f fd) (B2:pO mg) (T:lE K mg C):aS P w K mg base aO 1 f fd xj (AH C):=by
 refine F.ok acF (fun vs H Q E h=>?_) (fun aH A outer s H vs Q E hr h=>?_)
 ·obtain⟨rfl,_⟩:=h;rfl
 ·obtain @⟨x,fi,ow,kp,dx,kd,rfl,hx,hk,q⟩:=h
  have nkx:kp≠x:=ao hk hx (by intro z;cases z)
  refine⟨_,aA (iU (pv 0) (pv 1) rfl) (aA (iU (pv 0) (pv 2) rfl) (aA (iU (pv 0) (pv 3) rfl) (aA (iU (pv 0) (pv 4) rfl) (aA (iU (pv 0) (gF Xw rfl B2.dict boot_dict (ae (pv 4) ah)) rfl) (aG (iU (pv 0) ay rfl)))))),?_⟩;refine⟨_,rfl,_,rfl,x,C,dx,[],rfl,hx,T.cl,T.nf,(by show 0 < 1000;decide),?_⟩
  refine⟨_,rfl,_,rfl,x,C,dx,_,rfl,af,T.cl,T.nk,(by show 1 < 1000;decide),?_⟩
  rw[iw];refine⟨_,rfl,_,rfl,x,C,dx,_,rfl,af,T.cl,T.no,(by show 2 < 1000;decide),?_⟩
  rw[iw];refine⟨_,rfl,_,rfl,x,C,dx,_,rfl,af,T.cl,T.np,(by show 3 < 1000;decide),?_⟩
  rw[iw];refine⟨_,rfl,kp,rfl,by rw[ag nkx];exact hk,fun kn sE=>?_⟩
  have nx:x≠kn:=aq af sE;refine⟨_,rfl,x,C,dx,_,rfl,by rw[ag nx];exact af,T.cl,T.nn,(by show 4 < 1000;decide),?_⟩
  refine⟨_,rfl,x,C,dx,_,rfl,af,T.cl,T.nb,(by show 5 < 1000;decide),?_⟩
  rw[iw,aaE];have ym:H kn=none:=by
   cases e:H kn with
   |none=>rfl
   |some u=>rw[ag (aN nx),e]at sE;cases sE
  have e:∀o o':HO,upd (upd (upd H x o) kn (.dT [])) x o'=upd (upd H kn (.dT [])) x o':=fun o o'=>by
   funext b
   by_cases h1:b=x
   ·subst h1;rw[af,af]
   ·rw[ag h1,ag h1]
    by_cases h2:b=kn
    ·subst h2;rw[af,af]
    ·rw[ag h2,ag h2,ag h1]
  rw[e];exact q kn ym
structure WI (C D x dx fi fx dl de dh ow kp kn:Addr) (kd:Str) (bg:Int) (kl ko:List (Key×V)) (ke kh kk:List (List Key×V)) (m:Int) (bk:Bk) (H:Hp):Prop where
 n3:x≠fi
 hx:H x=some (.ins C dx (fW fi ow kp kn kd bg))
 fi:FI D fi fx dl de dh kl ke kh m bk H
 ho:H ow=some (.dK ko)
 hk:H kn=some (.dT kk)
 n1:kn≠de
 n2:kn≠dh
inductive Ak (C D:Addr) (vs:List V) (H:Hp) (Q:VK) (E:XK):Prop
 |mk {x dx fi fx dl de dh ow kp kn a:Addr}{kd:Str}{bg:Int}{kl ko:List (Key×V)}{ke kh kk:List (List Key×V)}{m:Int}{bk:Bk} (_:vs = [.ref x]) (_:WI C D x dx fi fx dl de dh ow kp kn kd bg kl ko ke kh kk m bk H) (_:bo kl (Sum.inr kd)=some (.ref a)) (_:Q (.ref a) H):Ak C D vs H Q E
theorem abx:bF ["self"] ["self"] (aI tG):=bV (by decide +kernel)
theorem aaH (F:aY K "forebears" "Whole.forebears" tG f fd) (T:lE K mg C) (TF:pR K mg D):aS P w K mg base aO 1 f fd ["self"] (Ak C D):=by
 refine F.ok abx (fun vs H Q E h=>?_) (fun aH A outer s H vs Q E hr h=>?_)
 ·obtain⟨rfl,_⟩:=h;rfl
 ·obtain @⟨x,dx,fi,fx,dl,de,dh,ow,kp,kn,a,kd,bg,kl,ko,ke,kh,kk,m,bk,rfl,h,e,q⟩:=h
  have hu:=hr.units;refine⟨_,aG (bz (jP (iE hu) (cF (cF (pv 0) rfl) rfl) (cF (pv 0) rfl) (fun _ _=>rfl))),?_⟩;refine⟨_,rfl,x,C,dx,_,.ref fi,rfl,h.hx,T.cl,T.nf,Ej,fi,D,fx,_,.ref dl,rfl,h.fi.hx,TF.cl,TF.nl,ND,_,rfl,x,C,dx,_,.str kd,rfl,h.hx,T.cl,T.nk,EJ,dl,.ref a,rfl,.inl ⟨kl,Sum.inr kd,.inl h.fi.hl,rfl,e.symm⟩,q⟩
end gu
namespace L2
open PySem PySem.W
theorem aby:FT X .Mult (rI wU fun i j=>.int (i * j)):=fun pins s σ H x y u v Q I rx ry h=>ZG pins s σ H x y u v Q I rx ry h
end L2
namespace gu
open PySem L2 PySem.W HT
theorem EK {u:V}{d:PyData} (e:Ent d) (r:Rep H u d):∃a xs,u = .ref a/\H a=some (.tup (.str (b7 d)::xs)):=by
 cases e with
 |plain n=>obtain⟨a,u,rfl,ha,_⟩:=two1 r;exact⟨a,_,rfl,ha⟩
 |behind ds=>obtain⟨a,u,rfl,ha,_⟩:=two1 r;exact⟨a,_,rfl,ha⟩
 |uA ds=>obtain⟨a,u,rfl,ha,_⟩:=two1 r;exact⟨a,_,rfl,ha⟩
 |ahead x n =>
  obtain⟨a,vs,rfl,ha,rs⟩:=r.tupI;obtain⟨v0,w0,rfl,r0,rs⟩:=rs.js;obtain rfl:=r0.mG;exact⟨a,_,rfl,ha⟩
theorem Zq {d:PyData} (e:Ent d):(∀s∈iA d,je s)/\(iA d).length<=4:=by
 cases e with
 |plain n h=>exact⟨fun s hs=>by rw[dH.mp hs];exact .add n h,by show 1<=4;decide⟩
 |ahead x n h hn =>
  refine⟨fun s hs=>?_,by show 2<=4;decide⟩
  rcases bj.mp hs with z|z
  ·rw[z];exact .ask x h
  ·rw[dH.mp z];exact .add n hn
 |behind ds h4 hs=>exact⟨hs,h4⟩
 |uA ds h4 hs=>exact⟨hs,h4⟩
theorem Oj {u:V}{d:PyData} (e:je d) (r:Rep H u d):∃a xs,u = .ref a/\H a=some (.tup (.str (b7 d)::xs))/\(b7 d = "add" \/ b7 d = "times" -> xs = [.int (rO d)])/\(b7 d = "ask" -> xs = [.str (uB d)])/\(b7 d = "times" -> -9<=rO d/\rO d<=9):=by
 cases e with
 |add n =>
  obtain⟨a,u,rfl,ha,r1⟩:=two1 r;obtain rfl:=r1.pQ;exact⟨a,_,rfl,ha,fun _=>rfl,fun z=>absurd z (by show ¬ ((("add" : Str)) = "ask");decide +kernel),fun z=>absurd z (by show ¬ ((("add" : Str)) = "times");decide +kernel)⟩
 |times n lo hi =>
  obtain⟨a,u,rfl,ha,r1⟩:=two1 r;obtain rfl:=r1.pQ;exact⟨a,_,rfl,ha,fun _=>rfl,fun z=>absurd z (by show ¬ ((("times" : Str)) = "ask");decide +kernel),fun _=>⟨lo,hi⟩⟩
 |ask x =>
  obtain⟨a,u,rfl,ha,r1⟩:=two1 r;obtain rfl:=r1.mG;exact⟨a,_,rfl,ha,fun z=>absurd z (by show ¬ ((("ask" : Str)) = "add" \/ (("ask" : Str)) = "times");decide +kernel),fun _=>rfl,fun z=>absurd z (by show ¬ ((("ask" : Str)) = "times");decide +kernel)⟩
 |E7 =>
  obtain⟨a,vs,rfl,ha,rs⟩:=r.tupI;obtain⟨v0,w0,rfl,r0,rs⟩:=rs.js;obtain rfl:=rs.xi;obtain rfl:=r0.mG;exact⟨a,_,rfl,ha,fun z=>absurd z (by show ¬ ((("onward" : Str)) = "add" \/ (("onward" : Str)) = "times");decide +kernel),fun z=>absurd z (by show ¬ ((("onward" : Str)) = "ask");decide +kernel),fun z=>absurd z (by show ¬ ((("onward" : Str)) = "times");decide +kernel)⟩
inductive Bb (vs:List V) (H:Hp) (Q:VK) (E:XK):Prop
 |mk {u:V}{d:PyData} (_:vs = [u]) (_:Ent d) (_:Rep H u d) (_:∀H',aB H H'->Q (.bl (wm d)) H'):Bb vs H Q E
theorem aeg:bF ["entry"] ["entry"] (aI DI):=bV (by decide +kernel)
theorem acG (F:aY K "goes_first" "goes_first" DI f fd):aS P w K mg base aO 1 f fd ["entry"] Bb:=by
 refine F.ok aeg (fun vs H Q E h=>?_) (fun aH A outer s H vs Q E hr h=>?_)
 ·obtain⟨rfl,_⟩:=h;rfl
 ·obtain @⟨u,d,rfl,en,r,q⟩:=h
  refine⟨_,aG (bz (qV tH (a6 cx (pv 0) ay (fun _ _=>rfl)) (bJ (ae b9 (ae b9 ah))) rfl)),?_⟩;obtain⟨a,xs,rfl,ha⟩:=EK en r;refine⟨_,rfl,a,_,0,_,rfl,rfl,aE.of ha,gn,cJ,fun c hc=>?_⟩;refine⟨c,_,rfl,.inr (aE.of af),rfl,rfl,?_⟩;have e:uN (.str (b7 d)) ((["ahead","shut"]:List Str).map V.str)=wm d:=by rw[qR];unfold wm;exact V5.mpr (by simp)
  have:=q _ (ar (o:= .tup [V.str "ahead",V.str "shut"]) hc);rw[<-e]at this;exact this
inductive Bc (vs:List V) (H:Hp) (Q:VK) (E:XK):Prop
 |mk {u:V}{d:PyData} (_:vs = [u]) (_:Ent d) (_:Rep H u d) (_:b7 d ≠ "plain") (_:∀r us H',aB H H'->H' r=some (.tup us)->cP H' us (iA d)->Q (.ref r) H'):Bc vs H Q E
theorem aeh:bF ["entry"] ["entry"] (aI Eb):=bV (by decide +kernel)
theorem acH (F:aY K "steps_of" "steps_of" Eb f fd):aS P w K mg base aO 1 f fd ["entry"] Bc:=by
 refine F.ok aeh (fun vs H Q E h=>?_) (fun aH A outer s H vs Q E hr h=>?_)
 ·obtain⟨rfl,_⟩:=h;rfl
 ·obtain @⟨u,d,rfl,en,r,np,q⟩:=h
  refine⟨_,aA (cf (bK ly (a6 cx (pv 0) ay (fun _ _=>rfl)) b9 (bQ _)) (aG (bz (bJ (ae (bJ (ae b9 (ae (a6 cx (pv 0) ay (fun _ _=>rfl)) ah))) (ae (bJ (ae b9 (ae (a6 cx (pv 0) ay (fun _ _=>rfl)) ah))) ah))))) cO)
   (aG (bz (a6 cx (pv 0) ay (fun _ _=>rfl)))),?_⟩
  cases en with
  |plain n=>exact absurd rfl np
  |ahead x n h hn =>
   obtain⟨a,vs,rfl,ha,rs⟩:=r.tupI;obtain⟨v0,w0,rfl,r0,rs⟩:=rs.js;obtain⟨v1,w1,rfl,r1,rs⟩:=rs.js;obtain⟨v2,w2,rfl,r2,rs⟩:=rs.js;obtain rfl:=rs.xi;obtain rfl:=r0.mG;obtain rfl:=r1.mG;obtain rfl:=r2.pQ;refine⟨_,rfl,a,_,0,_,rfl,rfl,aE.of ha,gn,rfl,_,rfl,?_⟩;refine⟨_,rfl,a,_,1,_,rfl,rfl,aE.of ha,iY,cJ,fun c1 h1=>?_⟩;have S1:=ar (o:= .tup [V.str "ask",.str x]) h1;refine⟨_,rfl,a,_,2,_,rfl,rfl,aE.of (S1 _ _ ha),A1,cJ,fun c2 h2=>⟨cJ,fun c3 h3=>?_⟩⟩;have S2:=ar (o:= .tup [V.str "add",.int n]) h2;have S3:=ar (o:= .tup [V.ref c1,.ref c2]) h3;exact q c3 _ _ (S1.trans (S2.trans S3)) af (.cons (.tup (S3 _ _ (S2 _ _ af)) (.cons (.str _) (.cons (.str _) .nil))) (.cons (.tup (S3 _ _ af) (.cons (.str _) (.cons (.int _) .nil))) .nil))
  |behind ds h4 hs =>
   obtain⟨a,u,rfl,ha,r1⟩:=two1 r;obtain⟨b,vs,rfl,hb,rs⟩:=r1.tupI;exact⟨_,rfl,a,_,0,_,rfl,rfl,aE.of ha,gn,rfl,_,rfl,_,rfl,a,_,1,_,rfl,rfl,aE.of ha,iY,q b vs H (aB.refl _) hb rs⟩
  |uA ds h4 hs =>
   obtain⟨a,u,rfl,ha,r1⟩:=two1 r;obtain⟨b,vs,rfl,hb,rs⟩:=r1.tupI;exact⟨_,rfl,a,_,0,_,rfl,rfl,aE.of ha,gn,rfl,_,rfl,_,rfl,a,_,1,_,rfl,rfl,aE.of ha,iY,q b vs H (aB.refl _) hb rs⟩
def fR (ta lf rs:Addr) (wh:Str) (t:Int):List (Str×V):= [("asking",.ref ta),("where",.str wh),("left",.ref lf),("total",.int t),("rested",.ref rs)]
section
variable{ta lf rs:Addr}{wh:Str}{t t':Int}
theorem E8:cg "total" (.int t') (fR ta lf rs wh t)=fR ta lf rs wh t':=rfl
theorem Al:(fR ta lf rs wh t).lookup ("asking" : Str)=some (V.ref ta):=rfl
theorem NG:(fR ta lf rs wh t).lookup ("where" : Str)=some (V.str wh):=rfl
theorem z7:(fR ta lf rs wh t).lookup ("left" : Str)=some (V.ref lf):=rfl
theorem zS:(fR ta lf rs wh t).lookup ("total" : Str)=some (V.int t):=rfl
theorem MZ:(fR ta lf rs wh t).lookup ("rested" : Str)=some (V.ref rs):=rfl
end
structure pS (K:Frag) (mg:Str->Option Value) (C:Addr):Prop where
 cl:jy K C
 na:f6 K C "asking"
 nw:f6 K C "where"
 nl:f6 K C "left"
 nt:f6 K C "total"
 nr:f6 K C "rested"
 yw:mg "Reckoning" = some (.ref C)
inductive Bd (C:Addr) (vs:List V) (H:Hp) (Q:VK) (E:XK):Prop
 |mk {x ta ts dx:Addr}{wh n b:Str}{us:List V} (_:vs = [.ref x,.ref ta,.str wh,.ref ts]) (_:H x=some (.ins C dx [])) (_:H ta=some (.tup [.str n,.str b])) (_:H ts=some (.tup us))
  (_:∀lf rs H',H lf=none->H rs=none->lf≠rs->(∀y u,y≠x->H y=some u->H' y=some u)->H' x=some (.ins C dx (fR ta lf rs wh 0))->H' lf=some (.lst us)->H' rs=some (.lst [.str n])->Q .aF H'):Bd C vs H Q E
abbrev yB:List Str:= ["self","asking","where","steps"]
theorem aei:bF yB yB (aI uc):=bV (by decide +kernel)
theorem acI (F:aY K "__init__" "Reckoning.__init__" uc f fd) (B:gV mg) (T:pS K mg C):aS P w K mg base aO 1 f fd yB (Bd C):=by
 refine F.ok aei (fun vs H Q E h=>?_) (fun aH A outer s H vs Q E hr h=>?_)
 ·obtain⟨rfl,_⟩:=h;rfl
 ·obtain @⟨x,ta,ts,dx,wh,n,b,us,rfl,hx,c8,Cz,q⟩:=h
  refine⟨_,aA (iU (pv 0) (pv 1) rfl) (aA (iU (pv 0) (pv 2) rfl) (aA (iU (pv 0) (gF tw rfl B.list boot_list (ae (pv 3) ah)) rfl) (aA (iU (pv 0) ay rfl) (aG (iU (pv 0) (dQ (ae (a6 cx (pv 1) ay (fun _ _=>rfl)) ah)) rfl))))),?_⟩;have nt:ts≠x:=ao Cz hx (by intro z;cases z)
  have na:ta≠x:=ao c8 hx (by intro z;cases z)
  refine⟨_,rfl,_,rfl,x,C,dx,[],rfl,hx,T.cl,T.na,(by show 0 < 1000;decide),?_⟩
  refine⟨_,rfl,_,rfl,x,C,dx,_,rfl,af,T.cl,T.nw,(by show 1 < 1000;decide),?_⟩
  rw[iw];refine⟨_,rfl,ts,us,rfl,.inr (aE.of (by rw[ag nt];exact Cz)),fun lf gJ=>?_⟩
  have nx:x≠lf:=aq af gJ;have QP:H lf=none:=by rw[ag (aN nx)]at gJ;exact gJ
  refine⟨_,rfl,x,C,dx,_,rfl,by rw[ag nx];exact af,T.cl,T.nl,(by show 2 < 1000;decide),?_⟩
  refine⟨_,rfl,x,C,dx,_,rfl,af,T.cl,T.nt,(by show 3 < 1000;decide),?_⟩
  rw[iw];have gx:∀u,upd (upd (upd H x (.ins C dx (cg "where" (.str wh) (cg "asking" (.ref ta) [])))) lf (.lst us)) x u x=some u:=fun u=>af;have gl:∀u,upd (upd (upd H x (.ins C dx (cg "where" (.str wh) (cg "asking" (.ref ta) [])))) lf (.lst us)) x u lf=some (.lst us):=fun u=>by rw[ag (aN nx)];exact af
  have gk:∀u y o,y≠x->H y=some o->upd (upd (upd H x (.ins C dx (cg "where" (.str wh) (cg "asking" (.ref ta) [])))) lf (.lst us)) x u y=some o:=fun u y o n e=>by rw[ag n,ag (aq e QP),ag n];exact e
  generalize (upd (upd (upd H x (.ins C dx (cg "where" (.str wh) (cg "asking" (.ref ta) [])))) lf (.lst us)) x)=G at gx gl gk ⊢;refine⟨_,rfl,ta,_,0,_,rfl,rfl,aE.of (gk _ _ _ na c8),gn,gI,fun rs lV=>?_⟩;have yC:x≠rs:=aq (gx _) lV;have jh:lf≠rs:=aq (gl _) lV;have QQ:H rs=none:=by
   cases e:H rs with
   |none=>rfl
   |some o=>rw[gk _ _ _ (aN yC) e]at lV;cases lV
  refine⟨_,rfl,x,C,dx,_,rfl,by rw[ag yC];exact gx _,T.cl,T.nr,(by show 4 < 1000;decide),?_⟩
  refine q lf rs _ QP QQ jh (fun y u n e=>?_) (by rw[af];rfl) (by rw[ag (aN nx),ag jh];exact gl _) (by rw[ag (aN yC)];exact af)
  rw[ag n,ag (aq e QQ)];exact gk _ _ _ n e
inductive Be (C:Addr) (vs:List V) (H:Hp) (Q:VK) (E:XK):Prop
 |mk {x ta lf rs dx:Addr}{wh:Str}{t:Int}{u:V}{d:PyData} (_:vs = [.ref x,u]) (_:H x=some (.ins C dx (fR ta lf rs wh t))) (_:je d) (_:Rep H u d) (_:∀H',(∀y o,y≠x->H y=some o->H' y=some o)->H' x=some (.ins C dx (fR ta lf rs wh (stepT t d)))->Q .aF H'):Be C vs H Q E
theorem aej:bF ["self","step"] ["self","step"] (aI tX):=bV (by decide +kernel)
theorem acJ (F:aY K "step_by" "Reckoning.step_by" tX f fd) (T:pS K mg C):aS P w K mg base aO 1 f fd ["self","step"] (Be C):=by
 refine F.ok aej (fun vs H Q E h=>?_) (fun aH A outer s H vs Q E hr h=>?_)
 ·obtain⟨rfl,_⟩:=h;rfl
 ·obtain @⟨x,ta,lf,rs,dx,wh,t,u,d,rfl,hx,st,r,q⟩:=h
  refine⟨_,aA (cf (bK ly (a6 cx (pv 1) ay (fun _ _=>rfl)) b9 (bQ _)) (aG (vF (pv 0) (a6 cx (pv 1) ay (fun _ _=>rfl)) Ac)) cO)
   (aG (cf (bK ly (a6 cx (pv 1) ay (fun _ _=>rfl)) b9 (bQ _)) (aG (vF (pv 0) (a6 cx (pv 1) ay (fun _ _=>rfl)) aby)) cO)),?_⟩
  obtain⟨a,xs,rfl,ha,h1,h2,h3⟩:=Oj st r;have nax:a≠x:=ao ha hx (by intro z;cases z)
  refine⟨_,rfl,a,_,0,_,rfl,rfl,aE.of ha,gn,rfl,_,rfl,?_⟩;refine c7 (fun e=>?_) (fun e=>?_)
  ·have e:b7 d = "add" :=by
    have:=iQ e;injection this
   obtain rfl:=h1 (.inl e);have et:stepT t d=t+rO d:=by unfold stepT;rw[ax e]
   rw[et]at q;refine⟨_,rfl,x,C,dx,_,.int t,rfl,hx,T.cl,T.nt,zS,_,rfl,a,_,1,_,rfl,rfl,aE.of ha,iY,_,_,rfl,rfl,dx,_,hx,by show 5 < 1000;decide,?_⟩
   rw[E8];refine⟨_,rfl,a,_,0,_,rfl,rfl,aE.of (by rw[ag nax];exact ha),gn,rfl,_,rfl,?_⟩
   exact c7 (fun z=>absurd z (by rw[e];decide +kernel)) (fun _=>q _ (fun y o n z=>by rw[ag n];exact z) af)
  ·have e : ¬ b7 d = "add" :=fun z=>e (by rw[z];exact fY rfl)
   refine⟨_,rfl,a,_,0,_,rfl,rfl,aE.of ha,gn,rfl,_,rfl,?_⟩;refine c7 (fun e2=>?_) (fun e2=>?_)
   ·have e2:b7 d = "times" :=by
     have:=iQ e2;injection this
    obtain rfl:=h1 (.inr e2);have et:stepT t d=t * rO d:=by unfold stepT;rw[aj e,ax e2]
    rw[et]at q;have h9:=h3 e2;refine⟨_,rfl,x,C,dx,_,.int t,rfl,hx,T.cl,T.nt,zS,_,rfl,a,_,1,_,rfl,rfl,aE.of ha,iY,_,_,rfl,rfl,.inr ⟨by omega,by omega⟩,dx,_,hx,by show 5 < 1000;decide,?_⟩
    rw[E8];exact q _ (fun y o n z=>by rw[ag n];exact z) af
   ·have e2 : ¬ b7 d = "times" :=fun z=>e2 (by rw[z];exact fY rfl)
    have et:stepT t d=t:=by unfold stepT;rw[aj e,aj e2]
    rw[et]at q;exact q _ (fun y o n z=>z) hx
inductive Bf (C:Addr) (vs:List V) (H:Hp) (Q:VK) (E:XK):Prop
 |mk {x ta lf rs dx tt ns:Addr}{wh:Str}{t z:Int}{y:V}{rv nv:List V} (_:vs = [.ref x,.ref tt]) (_:H x=some (.ins C dx (fR ta lf rs wh t))) (_:H rs=some (.lst rv)) (_:H tt=some (.tup [y,.int z,.ref ns])) (_:H ns=some (.tup nv)) (_:rv.length+nv.length<=1000)
  (_:∀H',(∀y o,y≠x->y≠rs->H y=some o->H' y=some o)->H' x=some (.ins C dx (fR ta lf rs wh (t+z)))->H' rs=some (.lst (rv++nv))->Q .aF H'):Bf C vs H Q E
theorem aek:bF ["self","told"] ["self","told"] (aI tY):=bV (by decide +kernel)
theorem acK (F:aY K "take_in" "Reckoning.take_in" tY f fd) (T:pS K mg C):aS P w K mg base aO 1 f fd ["self","told"] (Bf C):=by
 refine F.ok aek (fun vs H Q E h=>?_) (fun aH A outer s H vs Q E hr h=>?_)
 ·obtain⟨rfl,_⟩:=h;rfl
 ·obtain @⟨x,ta,lf,rs,dx,tt,ns,wh,t,z,y,rv,nv,rfl,hx,lV,jE,fQ,hl,q⟩:=h
  refine⟨_,aA (vF (pv 0) (a6 cx (pv 1) ay (fun _ _=>rfl)) Ac)
   (aG (gG (jq k9 PySem.F.slot_list_extend PySem.F.type_list_extend Xy (cF (pv 0) rfl) (ae (a6 cx (pv 1) ay (fun _ _=>rfl)) ah)))),?_⟩
  have n1:rs≠x:=ao lV hx (by intro z;cases z)
  have n2:tt≠x:=ao jE hx (by intro z;cases z)
  have n3:ns≠x:=ao fQ hx (by intro z;cases z)
  refine⟨_,rfl,x,C,dx,_,.int t,rfl,hx,T.cl,T.nt,zS,_,rfl,tt,_,1,_,rfl,rfl,aE.of jE,iY,_,_,rfl,rfl,dx,_,hx,by show 5 < 1000;decide,?_⟩
  rw[E8];have QR:upd H x (.ins C dx (fR ta lf rs wh (t+z))) rs=some (.lst rv):=by rw[ag n1];exact lV
  refine⟨_,rfl,x,C,dx,_,.ref rs,rfl,af,T.cl,T.nr,MZ,.inl ⟨rfl,_,ak.of QR⟩,_,rfl,tt,_,2,_,rfl,rfl,aE.of (by rw[ag n2];exact jE),A1,rs,ns,rv,nv,rfl,rfl,QR,by rw[ag n3];exact fQ,by rw[aT];omega,?_⟩
  exact q _ (fun y o m1 m2 e=>by rw[ag m2,ag m1];exact e) (by rw[ag (aN n1)];exact af) af
def lF (own:Own):List (Key×V):=t7 (own.map fun q=>(q.1,V.int q.2))
theorem Ol (n:Str):∀own:Own,bo (lF own) (Sum.inr n)=(own.lookup n).map V.int:=by
 intro own
 induction own with
 |nil=>rfl
 |cons p own ih =>
  show bo ((Sum.inr p.1,V.int p.2)::lF own) (Sum.inr n)=(((p.1,p.2)::own).lookup n).map V.int
  by_cases e:p.1=n
  ·rw[jo (by rw[e]),gE,show(n==p.1)=true by simp[e]];rfl
  ·rw[hU (fun z=>e (nj z)),ih,gE,show(n==p.1)=false by simp[aN e]]
def d5 (a:Ask):List Key:= [Sum.inr a.1,Sum.inr a.2]
theorem Zr {a b:Ask} (h:d5 a=d5 b):a=b:=by
 unfold d5 at h;injection h with h1 h2;injection h2 with h3 _;exact Prod.ext (nj h1) (nj h3)
def qw (H:Hp) (NU:List Str) (kk:List (List Key×V)) (ka:List (Ask×Int)):Prop:=Paired (fun kv p=>kv.1=d5 p.1 /\ ∃ (t:Addr) (y:V) (ns:Addr) (nv:List Str),kv.2=V.ref t/\H t=some (.tup [y,.int p.2,.ref ns])/\H ns=some (.tup (nv.map V.str))/\nv.Nodup /\ ∀y∈nv,y∈NU) kk ka
theorem qw.keep {ka:List (Ask×Int)} (h:qw H NU kk ka) (k:∀b xs,H b=some (.tup xs)->H' b=some (.tup xs)):qw H' NU kk ka:=Paired.imp' (fun _ _ ⟨e,t,y,ns,nv,e1,e2,e3,e4⟩=>⟨e,t,y,ns,nv,e1,k _ _ e2,k _ _ e3,e4⟩) h
theorem qw.val {ka:List (Ask×Int)} (h:qw H NU kk ka) (a:Ask):(bo kk (d5 a)=none /\ ∀z,(a,z) ∉ ka) \/ ∃ (v:V) (z:Int) (t:Addr) (y:V) (ns:Addr) (nv:List Str),bo kk (d5 a)=some v/\(a,z)∈ka/\v=V.ref t/\H t=some (.tup [y,.int z,.ref ns])/\H ns=some (.tup (nv.map V.str))/\nv.Nodup /\ ∀y∈nv,y∈NU:=by
 induction h with
 |nil=>exact .inl ⟨rfl,fun z h=>by cases h⟩
 |@cons kv p kk ka e _ ih =>
  obtain⟨ek,t,y,ns,nv,e1,e2,e3,e4,e5⟩:=e
  by_cases c:p.1=a
  ·exact .inr ⟨kv.2,p.2,t,y,ns,nv,jo (by rw[ek,c]),by rw[<-c];exact aW,e1,e2,e3,e4,e5⟩
  ·have ne : ¬ kv.1=d5 a:=fun z=>c (Zr (ek.symm.trans z))
   rcases ih with⟨i1,i2⟩|⟨v,z,t,y,ns,nv,i1,i2,i3⟩
   ·refine .inl ⟨by rw[hU ne];exact i1,fun z hz=>?_⟩
    rcases bj.mp hz with y|y
    ·exact c (by rw[<-y])
    ·exact i2 z y
   ·exact .inr ⟨v,z,t,y,ns,nv,by rw[hU ne];exact i1,bq _ i2,i3⟩
def UA (W:aZ) (NU:List Str) (a:Ask):Prop:=a.1∈NU/\(a.2 = "" \/ a.2∈W.line)
structure mX (W:aZ) (NU:List Str):Prop where
 bk:mH W.bk
 ask:∀p∈W.bk,∀s∈iA p.2.2,b7 s = "ask" -> uB s∈NU
 nm:∀n∈NU,Nm n
 aX:NU.length<=20
 ln:W.line.length<=9
 lm:∀k∈W.line,Nm k
structure Wh where
 (x dx fi fx dl de dh ow kp kn:Addr)
 (kd:Str)
 (kl:List (Key×V))
 (ke:List (List Key×V))
 (W:aZ)
 (L:Str->List Str)
 (NU:List Str)
structure cA (C D:Addr) (S:Wh) (bg m:Int) (kh kk kq:List (List Key×V)) (ka:List (Ask×Int)) (H:Hp):Prop where
 n3:S.x≠S.fi
 hx:H S.x=some (.ins C S.dx (fW S.fi S.ow S.kp S.kn S.kd bg))
 fi:FI D S.fi S.fx S.dl S.de S.dh S.kl S.ke kh m S.W.bk H
 ho:H S.ow=some (.dK (lF S.W.own))
 hk:H S.kn=some (.dT kk)
 hq:H S.kp=some (.dT kq)
 n1:S.kn≠S.de/\S.kn≠S.dh/\S.kp≠S.de/\S.kp≠S.dh/\S.kn≠S.kp
 ln:kc H S.kl S.L S.kd
 el:S.L S.kd=S.W.line
 eQ:nQ H kh S.W.bk S.L
 kv:qw H S.NU kk ka
 ok:∀p∈ka,S.W.Out p.1 (.told p.2)
 nd:(ka.map (·.1)).Nodup
 sF:∀p∈ka,UA S.W S.NU p.1
 ql:kq.length<=kk.length
def Kp (S:Wh) (H H':Hp):Prop:= ∀b o,b≠S.fi->b≠S.dh->H b=some o->H' b=some o
theorem cA.same {S:Wh}{ka:List (Ask×Int)} (h:cA C D S bg m kh kk kq ka H) (s:aB H H'):cA C D S bg m kh kk kq ka H':=
 ⟨h.n3,s _ _ h.hx,⟨s _ _ h.fi.hx,s _ _ h.fi.hl,s _ _ h.fi.he,s _ _ h.fi.hh,h.fi.du.same s,h.fi.ok,h.fi.nn⟩,s _ _ h.ho,s _ _ h.hk,s _ _ h.hq,h.n1,h.ln.same s,h.el,h.eQ.keep h.fi.ok fun b xs e=>s _ _ e,h.kv.keep fun b xs e=>s _ _ e,h.ok,h.nd,h.sF,h.ql⟩
theorem cA.write {S:Wh}{ka:List (Ask×Int)} (h:cA C D S bg m kh kk kq ka H) (k:∀b o,(∀xs,o≠HO.lst xs)->(∀dx fs,(b=S.x\/b=S.fi) \/ ∀c,o≠HO.ins c dx fs)->H b=some o->H' b=some o):cA C D S bg m kh kk kq ka H':=by
 have kt:∀b xs,H b=some (.tup xs)->H' b=some (.tup xs):=fun b xs e=>k b _ (by intro _ z;cases z) (fun _ _=>.inr (by intro _ z;cases z)) e
 have kT:∀b xs,H b=some (.dT xs)->H' b=some (.dT xs):=fun b xs e=>k b _ (by intro _ z;cases z) (fun _ _=>.inr (by intro _ z;cases z)) e
 have kK:∀b xs,H b=some (.dK xs)->H' b=some (.dK xs):=fun b xs e=>k b _ (by intro _ z;cases z) (fun _ _=>.inr (by intro _ z;cases z)) e
 obtain⟨la,e1,e2⟩:=h.ln;exact⟨h.n3,k _ _ (by intro _ z;cases z) (fun _ _=>.inl (.inl rfl)) h.hx,⟨k _ _ (by intro _ z;cases z) (fun _ _=>.inl (.inr rfl)) h.fi.hx,kK _ _ h.fi.hl,kT _ _ h.fi.he,kT _ _ h.fi.hh,h.fi.du.keep kt h.fi.ok.ent,h.fi.ok,h.fi.nn⟩,kK _ _ h.ho,kT _ _ h.hk,kT _ _ h.hq,h.n1,⟨la,e1,kt _ _ e2⟩,h.el,h.eQ.keep h.fi.ok kt,h.kv.keep kt,h.ok,h.nd,h.sF,h.ql⟩
theorem cA.looked {S:Wh}{m':Int}{bA:List (List Key×V)}{ka:List (Ask×Int)} (h:cA C D S bg m kh kk kq ka H) (k:Kp S H H') (fi:FI D S.fi S.fx S.dl S.de S.dh S.kl S.ke bA m' S.W.bk H') (ho:nQ H' bA S.W.bk S.L):cA C D S bg m' bA kk kq ka H':=by
 have kt:∀b xs,H b=some (.tup xs)->H' b=some (.tup xs):=fun b xs e=>k _ _ (ao e h.fi.hx (by intro z;cases z)) (ao e h.fi.hh (by intro z;cases z)) e
 obtain⟨la,e1,e2⟩:=h.ln;exact⟨h.n3,k _ _ h.n3 (ao h.hx h.fi.hh (by intro z;cases z)) h.hx,fi,k _ _ (ao h.ho h.fi.hx (by intro z;cases z)) (ao h.ho h.fi.hh (by intro z;cases z)) h.ho,k _ _ (ao h.hk h.fi.hx (by intro z;cases z)) h.n1.2.1 h.hk,k _ _ (ao h.hq h.fi.hx (by intro z;cases z)) h.n1.2.2.2.1 h.hq,h.n1,⟨la,e1,kt _ _ e2⟩,h.el,ho,h.kv.keep kt,h.ok,h.nd,h.sF,h.ql⟩
theorem Ys {W:aZ}{a:Ask} (h:W.Out a (.told z)) (ne:a.2 ≠ ""):(W.look a).isSome=true:=by
 obtain⟨k,hk⟩:=h;cases k with
 |zero=>cases hk
 |succ k =>
  have hk:W.kE (W.out k) a=some (.told z):=hk;unfold aZ.kE at hk;rw[show W.j0 a=none by unfold aZ.j0;exact aj fun y=>ne y.1]at hk
  cases e:W.look a with
  |none=>rw[e]at hk;cases hk
  |some p=>rfl
theorem aaI {W:aZ}{a:Ask}{wh:Str}{d:PyData} (h:W.look a=some (wh,d)):wh∈W.line:=by
 have:=(vX h).1;unfold cB at this;split at this
 ·exact this
 ·exact Dp this
inductive Bg (C D R:Addr) (vs:List V) (H:Hp) (Q:VK) (E:XK):Prop
 |mk {S:Wh}{bg m:Int}{kh kk kq:List (List Key×V)}{ka:List (Ask×Int)}{r CA ta lf rs:Addr}{wh:Str}{t:Int}{a:Ask}{u:V}{d:PyData} (_:vs = [.ref S.x,.ref r,u]) (_:mX S.W S.NU) (_:cA C D S bg m kh kk kq ka H) (_:kh.length<=1000000) (_:H r=some (.ins R CA (fR ta lf rs wh t))) (_:H ta=some (.tup [.str a.1,.str a.2])) (_:wh∈S.W.line) (_:je d) (_:Rep H u d)
  (_:S.W.need a.1 wh d=none -> ∀bA m' H',Kp S H H'->cA C D S bg m' bA kk kq ka H'->bA.length<=kh.length+1->Q .aF H')
  (_:∀b,S.W.need a.1 wh d=some b -> ∀tn bA m' H',Kp S H H'->cA C D S bg m' bA kk kq ka H'->bA.length<=kh.length+1->H' tn=some (.tup [.str b.1,.str b.2])->Q (.ref tn) H'):Bg C D R vs H Q E
abbrev nCo:List Str:= ["self","reckoning","step","name","where"]
theorem QS:bF nCo ["self","reckoning","step"] (aI tW):=bV (by decide +kernel)
theorem acL (F:aY K "come_to" "Whole.come_to" tW f fd) (T:lE K mg C) (TF:pR K mg D) (TR:pS K mg R) (GL:aS P w K mg base aO 2 fL dL ["self","kind","name","behind"] (uf D)) (ML:Meth K D "look" fL) (bL:Binds K dL ["self","kind","name","behind"] []):aS P w K mg base aO 3 f fd ["self","reckoning","step"] (Bg C D R):=by
 refine F.ok QS (fun vs H Q E h=>?_) (fun aH A outer s H vs Q E hr h=>?_)
 ·obtain⟨rfl,_⟩:=h;rfl
 ·obtain @⟨S,bg,m,kh,kk,kq,ka,r,CA,ta,lf,rs,wh,t,a,u,d,rfl,wo,h,yD,ig,c8,Tz,st,ru,q1,q2⟩:=h
  have d6:bb 2 _:=hr;have bO:=iE hr.units;refine⟨_,aA (cf (bK ly (a6 cx (pv 2) ay (fun _ _=>rfl)) b9 (bQ _)) (aG (bz (bJ (ae (a6 cx (pv 2) ay (fun _ _=>rfl)) (ae b9 ah))))) cO)
   (aA (cf (bK nR (a6 cx (pv 2) ay (fun _ _=>rfl)) b9 (bQ _)) (aG (bz iy)) cO)
   (aA (aaR (i:=3) (j:=4) rfl QS.nd rfl rfl (by decide) rfl rfl (ae (a6 cx (cF (pv 1) rfl) ay (fun _ _=>rfl)) (ae (cF (pv 1) rfl) ah)) rfl)
   (aA (cf (PW.pt (pw_or (mj (pF bO (bJ (ae (pv 3) (ae (pv 4) ah))) (cF (pv 0) rfl))) (pw_or1 (mj (ZD (ll (cF (pv 0) rfl) TF.cl ML GL d6 bL .nil eF (ae (cF (pv 0) rfl) (ae (pv 3) (ae (pv 4) ah))))))))) (aG (bz (bJ (ae (pv 3) (ae (pv 4) ah))))) cO)
   (aG (bz iy))))),?_⟩
  obtain⟨sa,xs,rfl,ha,h1,h2,h3⟩:=Oj st ru;refine⟨_,rfl,sa,_,0,_,rfl,rfl,aE.of ha,gn,rfl,_,rfl,?_⟩;refine c7 (fun e=>?_) (fun e=>?_)
  ·have e:b7 d = "ask" :=by
    have:=iQ e;injection this
   obtain rfl:=h2 e;refine⟨_,rfl,sa,_,1,_,rfl,rfl,aE.of ha,iY,cJ,fun c hc=>?_⟩;have S1:=ar (o:= .tup [V.str (uB d),V.str ""]) hc;exact q2 (uB d,"") (by unfold aZ.need;rw[ax e]) c kh m _ (fun b o _ _ z=>S1 _ _ z) (h.same S1) (jN _) af
  have e : ¬ b7 d = "ask" :=fun z=>e (by rw[z];exact fY rfl)
  refine⟨_,rfl,sa,_,0,_,rfl,rfl,aE.of ha,gn,rfl,_,rfl,?_⟩;refine c7 (fun e2=>?_) (fun e2=>?_)
  ·have e2 : ¬ b7 d = "onward" :=fun z=>by rw[z]at e2;revert e2;decide +kernel
   exact q1 (by unfold aZ.need;rw[aj e,aj e2]) kh m H (fun b o _ _ z=>z) h (jN _)
  have e2:b7 d = "onward" :=by
   by_cases z:b7 d = "onward"
   ·exact z
   ·exact absurd (by simpa using fun y=>z y) e2
  have en:S.W.need a.1 wh d=if (S.W.look (a.1,wh)).isSome=true then some (a.1,wh) else none:=by unfold aZ.need;rw[aj e,ax e2]
  refine⟨_,rfl,r,R,CA,_,.ref ta,rfl,ig,TR.cl,TR.na,Al,ta,_,0,_,rfl,rfl,aE.of c8,gn,_,rfl,r,R,CA,_,.str wh,rfl,ig,TR.cl,TR.nw,NG,_,_,rfl,?_⟩;refine⟨_,rfl,_,rfl,cJ,fun kt jf=>?_⟩;have Sk:=ar (o:= .tup [V.str a.1,V.str wh]) jf;have yy:upd H kt (.tup [V.str a.1,V.str wh]) kt=some (.tup ((d5 (a.1,wh)).map kV)):=af;have w4:=h.same Sk;generalize upd H kt (.tup [V.str a.1,V.str wh])=H4 at Sk yy w4 ⊢;refine⟨_,rfl,S.x,C,S.dx,_,.ref S.kn,rfl,w4.hx,T.cl,T.nn,nN,S.kn,_,rfl,cU.t (k:=d5 (a.1,wh)) w4.hk yy,_,rfl,?_⟩;have wne:wh ≠ "" :=fun z=>by have:=(wo.lm wh Tz).lo;rw[z]at this;revert this;decide +kernel
  have fin:∀ {H5:Hp}{bA:List (List Key×V)}{m':Int},(S.W.look (a.1,wh)).isSome=true->Kp S H H5->cA C D S bg m' bA kk kq ka H5->bA.length<=kh.length+1 -> ∀tn,H5 tn=none->Q (.ref tn) (upd H5 tn (.tup [V.str a.1,V.str wh])):=fun {H5 bA m'} hs kp w5 l5 tn mY=>by
   have S6:=ar (o:= .tup [V.str a.1,V.str wh]) mY;exact q2 (a.1,wh) (by rw[en,ax hs]) tn bA m' _ (fun b o n1 n2 z=>S6 _ _ (kp b o n1 n2 z)) (w5.same S6) l5 af
  rcases h.kv.val (a.1,wh) with⟨e1,e3⟩|⟨v,z,t0,y,ns,nv,e1,e3,_⟩
  ·rw[e1]
   refine⟨_,rfl,S.x,C,S.dx,_,.ref S.fi,rfl,w4.hx,T.cl,T.nf,Ej,S.fi,S.fx,_,rfl,w4.fi.hx,Fw (by decide +kernel) (by decide +kernel) (by decide +kernel) (by decide +kernel),_,rfl,S.x,C,S.dx,_,.str S.kd,rfl,w4.hx,T.cl,T.nk,EJ,_,rfl,_,rfl,uf.mk rfl w4.fi w4.ln (by rw[h.el];have:=wo.ln;omega) (.inr (by rw[h.el];exact Tz)) w4.eQ yD fun v bA m' H5 TB fi5 ho5 l5 ov=>?_⟩
   have w5:=w4.looked TB fi5 ho5;have kp:Kp S H H5:=fun b o n1 n2 z=>TB b o n1 n2 (Sk _ _ z);rw[h.el]at ov;have ov:og H5 v (S.W.look (a.1,wh)):=ov;cases ef:S.W.look (a.1,wh) with
   |none =>
    rw[ef]at ov;have ov:v=V.aF:=ov;subst ov;refine⟨_,rfl,?_⟩;exact q1 (by rw[en,ef];rfl) bA m' H5 kp w5 l5
   |some p =>
    rw[ef]at ov;obtain⟨t0,u0,rfl,_,_⟩:=ov;refine⟨_,rfl,?_⟩;exact⟨_,rfl,_,rfl,cJ,fun tn mY=>fin (by rw[ef];rfl) kp w5 l5 tn mY⟩
  ·rw[e1]
   exact⟨_,rfl,_,rfl,cJ,fun tn mY=>fin (Ys (h.ok _ e3) wne) (fun b o _ _ z=>Sk _ _ z) w4 (jN _) tn mY⟩
theorem QT {G:Prop}{iF C:Hp->Prop} (h1:(∀H6,iF H6->C H6)->G) (h2:∀H6,iF H6->C H6):G:=h1 h2
theorem TC:seqIndex? 0 (v::vs).length=some 0:=by simp[seqIndex?]
structure FA where
 (x dx ta lf rs:Addr)
structure fq (R:Addr) (S:Wh) (H:Hp) (A:FA) (f:cj) (lv:List V) (rn:List Str):Prop where
 hx:H A.x=some (.ins R A.dx (fR A.ta A.lf A.rs f.w f.t))
 c8:H A.ta=some (.tup [.str f.a.1,.str f.a.2])
 hl:H A.lf=some (.lst lv)
 rl:cP H lv f.left
 st:∀s∈f.left,je s
 an:∀s∈f.left,b7 s = "ask" -> uB s∈S.NU
 hr:H A.rs=some (.lst (rn.map V.str))
 rm:∀y∈rn,y∈S.NU
 aX:rn.length+f.left.length * 20<=99
 jh:A.lf≠A.rs
 nx:A.x≠S.x
 nf:A.x≠S.fi
def Kr (S:Wh) (A:FA) (H H':Hp):Prop:= ∀b o,b≠S.fi->b≠S.dh->b≠A.x->b≠A.lf->b≠A.rs->H b=some o->H' b=some o
theorem fq.kp {S:Wh}{ka:List (Ask×Int)}{A:FA}{f:cj} (h:fq R S H A f lv rn) (w:cA C D S bg m kh kk kq ka H) (k:Kp S H H'):fq R S H' A f lv rn:=by
 have kl:∀b xs,H b=some (.lst xs)->H' b=some (.lst xs):=fun b xs e=>k _ _ (ao e w.fi.hx (by intro z;cases z)) (ao e w.fi.hh (by intro z;cases z)) e
 have kt:∀b xs,H b=some (.tup xs)->H' b=some (.tup xs):=fun b xs e=>k _ _ (ao e w.fi.hx (by intro z;cases z)) (ao e w.fi.hh (by intro z;cases z)) e
 exact⟨k _ _ h.nf (ao h.hx w.fi.hh (by intro z;cases z)) h.hx,kt _ _ h.c8,kl _ _ h.hl,o9 kt h.rl h.st,h.st,h.an,kl _ _ h.hr,h.rm,h.aX,h.jh,h.nx,h.nf⟩
theorem cA.wr {S:Wh}{ka:List (Ask×Int)}{A:FA}{f:cj} (h:cA C D S bg m kh kk kq ka H) (r:fq R S H A f lv rn) (k:∀b o,b≠A.x->b≠A.lf->b≠A.rs->H b=some o->H' b=some o):cA C D S bg m kh kk kq ka H':=
 h.write fun b o nl ni e=>k b o (fun z=>by
  rw[z]at e ni;rw[r.hx]at e;cases e;rcases ni A.dx _ with y|y
  ·rcases y with y|y
   ·exact r.nx y
   ·exact r.nf y
  ·exact y _ rfl) (fun z=>by rw[z,r.hl]at e;cases e;exact nl _ rfl) (fun z=>by rw[z,r.hr]at e;cases e;exact nl _ rfl) e
inductive Bh (C D R:Addr) (vs:List V) (H:Hp) (Q:VK) (E:XK):Prop
 |mk {S:Wh}{bg m:Int}{kh kk kq:List (List Key×V)}{ka:List (Ask×Int)}{A:FA}{fr:cj}{lv:List V}{rn:List Str} (_:vs = [.ref S.x,.ref A.x]) (_:mX S.W S.NU) (_:cA C D S bg m kh kk kq ka H) (_:kh.length<=900000) (_:fq R S H A fr lv rn) (_:df S.W fr) (_:fr.w∈S.W.line)
  (_:∀t' jF jG bA m' H',Kr S A H H'->cA C D S bg m' bA kk kq ka H'->bA.length<=kh.length+5->fq R S H' A ⟨fr.a,fr.w,[],t'⟩ jF jG->df S.W ⟨fr.a,fr.w,[],t'⟩->Q .aF H')
  (_:∀t' d ds jF jG bA m' b tn H',Kr S A H H'->cA C D S bg m' bA kk kq ka H'->bA.length<=kh.length+5->fq R S H' A ⟨fr.a,fr.w,d::ds,t'⟩ jF jG->df S.W ⟨fr.a,fr.w,d::ds,t'⟩->S.W.need fr.a.1 fr.w d=some b->(∀z,(b,z) ∉ ka)->H' tn=some (.tup [.str b.1,.str b.2])->Q (.ref tn) H'):Bh C D R vs H Q E
abbrev nGo:List Str:= ["self","reckoning","step","needed"]
theorem Gr:bF nGo ["self","reckoning"] (aI ur):=bV (by decide +kernel)
theorem acM {fC fT:Addr}{dC dT:FuncData} (F:aY K "go_on" "Whole.go_on" ur f fd) (T:lE K mg C) (TR:pS K mg R) (GC:aS P w K mg base aO 3 fC dC ["self","reckoning","step"] (Bg C D R)) (MC:Meth K C "come_to" fC) (bC:Binds K dC ["self","reckoning","step"] [])
  (GS:aS P w K mg base aO 1 fS dS ["self","step"] (Be R)) (MS:Meth K R "step_by" fS) (bS:Binds K dS ["self","step"] []) (GT:aS P w K mg base aO 1 fT dT ["self","told"] (Bf R)) (MT:Meth K R "take_in" fT) (bT:Binds K dT ["self","told"] []):aS P w K mg base aO 4 f fd ["self","reckoning"] (Bh C D R):=by
 refine F.ok Gr (fun vs H Q E h=>?_) (fun aH A outer s H vs Q E hr h=>?_)
 ·obtain⟨rfl,_⟩:=h;rfl
 ·obtain @⟨S,bg,m,kh,kk,kq,ka,A,fr,lv,rn,rfl,wo,h,yD,fh,fo,xH,q1,q2⟩:=h
  have mZ:bb 3 _:=hr;have bZ:bb 1 _:=mZ.mono (by decide)
  have bO:=iE hr.units;refine⟨_,aA (vK iR (qQ (cF (pv 1) rfl) (fun _=>rfl))
    (aA (ba (i:=2) Gr.nd rfl (Or.inl rfl) (a6 fJ (cF (pv 1) rfl) ay (fun _ _=>rfl)))
    (aA (ba (i:=3) Gr.nd rfl (Or.inl rfl) (ll (pv 0) T.cl MC GC mZ bC .nil eF (ae (pv 1) (ae (pv 2) ah))))
    (aA (cf (bK pE (pv 3) iy (bQ _)) (aG (gG (ll (pv 1) TR.cl MS GS bZ bS .nil eF (ae (pv 2) ah))))
     (aG (cf (mj (pF bO (pv 3) (cF (pv 0) rfl))) (aG (gG (ll (pv 1) TR.cl MT GT bZ bT .nil eF (ae (jP bO (cF (pv 0) rfl) (pv 3) (fun _ _=>rfl)) ah)))) (aG (bz (pv 3))))))
    (aG (gG (jq k9 V1 V2 M7 (cF (pv 1) rfl) (ae ay ah))))))))
   (aG (bz iy)),?_⟩
  refine⟨fun mm σ H1=>∃ (left:List PyData) (t':Int) (jF:List V) (jG:List Str) (bA:List (List Key×V)) (m':Int) (v2 v3:Option V),σ = [some (.ref S.x),some (.ref A.x),v2,v3]/\mm=left.length/\left.length<=4/\df S.W ⟨fr.a,fr.w,left,t'⟩/\fq R S H1 A ⟨fr.a,fr.w,left,t'⟩ jF jG/\cA C D S bg m' bA kk kq ka H1/\bA.length+left.length<=kh.length+4/\Kr S A H H1,
   ⟨_,fr.left,fr.t,lv,rn,kh,m,none,none,rfl,rfl,?_,fo,fh,h,?_,fun b o _ _ _ _ _ z=>z⟩,?_⟩
  ·have:=fh.aX;omega
  ·have:=fh.aX;omega
  rintro mm σ H1 ⟨left,t1,lv1,sG,JT,m1,v2,v3,rfl,rfl,l4,CB,gL,w1,k1,JU⟩;refine⟨_,rfl,A.x,R,A.dx,_,.ref A.lf,rfl,gL.hx,TR.cl,TR.nl,z7,_,.inl ⟨_,ak.of gL.hl,rfl⟩,?_⟩;cases left with
  |nil =>
   have rl:=gL.rl;have e:=cP.length rl;have e0:lv1 = []:=vq e;subst e0;refine c7 (fun z=>by cases z) (fun _=>?_)
   exact q1 t1 [] sG JT m1 H1 JU w1 (by have:JT.length+0<=kh.length+4:=k1;omega) gL CB
  |cons d ds =>
   obtain⟨v,vs,rfl,rd,rds⟩:=gL.rl.js;refine c7 (fun _=>?_) (fun z=>absurd rfl z);have k1:JT.length+(ds.length+1)<=kh.length+4:=k1;refine⟨fun aK H'=>∃ (t':Int) (jF:List V) (jG:List Str) (bA:List (List Key×V)) (m':Int) (v2 v3:Option V),aK = [some (.ref S.x),some (.ref A.x),v2,v3]/\df S.W ⟨fr.a,fr.w,ds,t'⟩/\fq R S H' A ⟨fr.a,fr.w,ds,t'⟩ jF jG/\cA C D S bg m' bA kk kq ka H'/\bA.length+ds.length<=kh.length+4/\Kr S A H H',fun aK H' ⟨t',jF,jG,bA,m',v2,v3,e,a1,a2,a3,a4,a5⟩=>⟨ds.length,qG _,ds,t',jF,jG,bA,m',v2,v3,e,rfl,by simp only[d7]at l4;omega,a1,a2,a3,a4,a5⟩,?_⟩
   refine⟨_,rfl,A.x,R,A.dx,_,.ref A.lf,rfl,gL.hx,TR.cl,TR.nl,z7,A.lf,_,0,v,rfl,rfl,ak.of gL.hl,gn,?_⟩;refine⟨_,rfl,S.x,S.dx,_,rfl,w1.hx,rfl,_,rfl,_,rfl,Bg.mk rfl wo w1 (by omega) gL.hx gL.c8 xH (gL.st d aW) rd (fun hn CC m2 H2 gK w2 l2=>?_) fun b hn tn CC m2 H2 gK w2 l2 mY=>?_⟩
   ·have cE:fq R S H2 A ⟨fr.a,fr.w,d::ds,t1⟩ (v::vs) sG:=gL.kp w1 gK
    have CD:Kr S A H H2:=fun b o n1 n2 n3 n4 n5 e=>gK b o n1 n2 (JU b o n1 n2 n3 n4 n5 e);obtain⟨v',xV,ev,TH,Gs⟩:=cE.rl.js;cases ev
    refine⟨_,rfl,rfl,_,rfl,_,rfl,A.x,A.dx,_,rfl,cE.hx,rfl,_,rfl,Be.mk rfl cE.hx (gL.st d aW) TH fun H3 k3 h3=>?_⟩;have yE:A.lf≠A.x:=ao cE.hl cE.hx (by intro z;cases z)
    have nrx:A.rs≠A.x:=ao cE.hr cE.hx (by intro z;cases z)
    have lR:=k3 _ _ yE cE.hl;have w3:=w2.wr cE fun b o n1 n2 n3 e=>k3 b o n1 e;have yF:∀b xs,H2 b=some (.tup xs)->H3 b=some (.tup xs):=fun b xs e=>k3 _ _ (ao e cE.hx (by intro z;cases z)) e
    refine⟨_,rfl,A.x,R,A.dx,_,.ref A.lf,rfl,h3,TR.cl,TR.nl,z7,.inl ⟨rfl,_,ak.of lR⟩,A.lf,_,0,0,v,rfl,rfl,lR,by decide,by decide,TC,rfl,?_⟩
    have gy:∀b xs,H3 b=some (.tup xs)->upd H3 A.lf (.lst vs) b=some (.tup xs):=fun b xs e=>by rw[ag (ao e lR (by intro z;cases z))];exact e
    have aX:=cE.aX;refine⟨stepT t1 d,vs,sG,CC,m2,_,_,rfl,CB.step rfl hn,⟨by rw[ag (aN yE)];exact h3,gy _ _ (yF _ _ cE.c8),af,o9 (fun b xs e=>gy _ _ (yF _ _ e)) Gs fun s hs=>gL.st s (bq _ hs),fun s hs=>gL.st s (bq _ hs),fun s hs=>gL.an s (bq _ hs),by rw[ag (aN cE.jh)];exact k3 _ _ nrx cE.hr,cE.rm,by simp only[d7]at aX;show sG.length+ds.length * 20<=99;omega,cE.jh,cE.nx,cE.nf⟩,?_,by omega,fun b o n1 n2 n3 n4 n5 e=>by rw[ag n4];exact k3 _ _ n3 (CD b o n1 n2 n3 n4 n5 e)⟩
    exact w3.write fun b o nl _ e=>by rw[ag (fun z=>by rw[z,lR]at e;cases e;exact nl _ rfl)];exact e
   ·have cE:fq R S H2 A ⟨fr.a,fr.w,d::ds,t1⟩ (v::vs) sG:=gL.kp w1 gK
    have CD:Kr S A H H2:=fun b o n1 n2 n3 n4 n5 e=>gK b o n1 n2 (JU b o n1 n2 n3 n4 n5 e);obtain⟨v',xV,ev,TH,Gs⟩:=cE.rl.js;cases ev
    have qx:H2 tn=some (.tup ((d5 b).map kV)):=mY;refine⟨_,rfl,rfl,_,rfl,_,rfl,_,rfl,S.x,C,S.dx,_,.ref S.kn,rfl,w2.hx,T.cl,T.nn,nN,S.kn,_,rfl,cU.t (k:=d5 b) w2.hk qx,_,rfl,?_⟩;rcases w2.kv.val b with⟨e1,e3⟩|⟨v0,z,t0,y,ns,nv,e1,e3,rfl,ht0,fQ,CF,TJ⟩
    ·rw[e1]
     exact⟨_,rfl,q2 t1 d ds (v::vs) sG CC m2 b tn H2 CD w2 (by omega) cE CB hn e3 mY⟩
    ·rw[e1]
     have nvl:nv.length<=20:=fw (len_sub CF TJ) wo.aX;have aX:=cE.aX;simp only[d7]at aX;refine⟨_,rfl,A.x,A.dx,_,rfl,cE.hx,rfl,_,rfl,S.x,C,S.dx,_,.ref S.kn,rfl,w2.hx,T.cl,T.nn,nN,_,rfl,S.kn,.ref t0,rfl,by rw[<-e1];exact cU.t (k:=d5 b) w2.hk qx,Bf.mk rfl cE.hx cE.hr ht0 fQ (by rw[aJ,aJ];omega) fun H3 k3 h3 ael=>?_⟩
     have yE:A.lf≠A.x:=ao cE.hl cE.hx (by intro z;cases z)
     have lR:=k3 _ _ yE cE.jh cE.hl;have w3:=w2.wr cE fun b o n1 n2 n3 e=>k3 b o n1 n3 e;have yF:∀b xs,H2 b=some (.tup xs)->H3 b=some (.tup xs):=fun b xs e=>k3 _ _ (ao e cE.hx (by intro z;cases z)) (ao e cE.hr (by intro z;cases z)) e
     refine⟨_,rfl,A.x,R,A.dx,_,.ref A.lf,rfl,h3,TR.cl,TR.nl,z7,.inl ⟨rfl,_,ak.of lR⟩,A.lf,_,0,0,v,rfl,rfl,lR,by decide,by decide,TC,rfl,?_⟩
     have gy:∀b xs,H3 b=some (.tup xs)->upd H3 A.lf (.lst vs) b=some (.tup xs):=fun b xs e=>by rw[ag (ao e lR (by intro z;cases z))];exact e
     refine⟨t1+z,vs,sG++nv,CC,m2,_,_,rfl,CB.take rfl hn (w2.ok _ e3),⟨by rw[ag (aN yE)];exact h3,gy _ _ (yF _ _ cE.c8),af,o9 (fun b xs e=>gy _ _ (yF _ _ e)) Gs fun s hs=>gL.st s (bq _ hs),fun s hs=>gL.st s (bq _ hs),fun s hs=>gL.an s (bq _ hs),by rw[ag (aN cE.jh),bB];exact ael,fun y hy=>?_,by rw[dz];show _+ds.length * 20<=99;omega,cE.jh,cE.nx,cE.nf⟩,?_,by omega,fun b o n1 n2 n3 n4 n5 e=>by rw[ag n4];exact k3 _ _ n3 n5 (CD b o n1 n2 n3 n4 n5 e)⟩
     ·rcases ee.mp hy with y'|y'
      ·exact cE.rm y y'
      ·exact TJ y y'
     ·exact w3.write fun b o nl _ e=>by rw[ag (fun z=>by rw[z,lR]at e;cases e;exact nl _ rfl)];exact e
theorem Yt:bootBuiltins "set" = some (.type "set"):=by decide +kernel
theorem cA.Pf {S:Wh}{sH:List (List Key×V)}{ka:List (Ask×Int)}{a:Ask} (h:cA C D S bg m kh kk kq ka H) (ha:∀z,(a,z) ∉ ka) (ho:S.W.Out a (.told z)) (ua:UA S.W S.NU a)
  (k:∀b o,b≠S.kn->b≠S.kp->H b=some o->H' b=some o) (hk:H' S.kn=some (.dT (kk ++ [(d5 a,.ref tt)]))) (hq:H' S.kp=some (.dT sH)) (ql:sH.length<=kk.length+1) (ht:∃ (y:V) (ns:Addr) (nv:List Str),H' tt=some (.tup [y,.int z,.ref ns])/\H' ns=some (.tup (nv.map V.str))/\nv.Nodup /\ ∀y∈nv,y∈S.NU) :
  cA C D S bg m kh (kk ++ [(d5 a,.ref tt)]) sH (ka ++ [(a,z)]) H':=by
 have kt:∀b xs,H b=some (.tup xs)->H' b=some (.tup xs):=fun b xs e=>k _ _ (ao e h.hk (by intro z;cases z)) (ao e h.hq (by intro z;cases z)) e
 have kK:∀b xs,H b=some (.dK xs)->H' b=some (.dK xs):=fun b xs e=>k _ _ (ao e h.hk (by intro z;cases z)) (ao e h.hq (by intro z;cases z)) e
 obtain⟨la,e1,e2⟩:=h.ln;obtain⟨y,ns,nv,h1,h2,h3,h4⟩:=ht;refine⟨h.n3,k _ _ (ao h.hx h.hk (by intro z;cases z)) (ao h.hx h.hq (by intro z;cases z)) h.hx,⟨k _ _ (ao h.fi.hx h.hk (by intro z;cases z)) (ao h.fi.hx h.hq (by intro z;cases z)) h.fi.hx,kK _ _ h.fi.hl,k _ _ (aN h.n1.1) (aN h.n1.2.2.1) h.fi.he,k _ _ (aN h.n1.2.1) (aN h.n1.2.2.2.1) h.fi.hh,h.fi.du.keep kt h.fi.ok.ent,h.fi.ok,h.fi.nn⟩,kK _ _ h.ho,hk,hq,h.n1,⟨la,e1,kt _ _ e2⟩,h.el,h.eQ.keep h.fi.ok kt,qJ (h.kv.keep kt) ⟨rfl,tt,y,ns,nv,rfl,h1,h2,h3,h4⟩,fun p hp=>?_,?_,fun p hp=>?_,by rw[dz];exact ql⟩
 ·rcases ee.mp hp with e|e
  ·exact h.ok p e
  ·rw[dH.mp e];exact ho
 ·rw[bB]
  refine g9.mpr ⟨h.nd,by simp,fun u hu v hv e=>?_⟩
  have hv:v=a:=dH.mp hv;obtain⟨p,hp,rfl⟩:=br.mp hu;exact ha p.2 (by rw[<-hv,<-e];exact hp)
 ·rcases ee.mp hp with e|e
  ·exact h.sF p e
  ·rw[dH.mp e];exact ua
theorem qw.no {ka:List (Ask×Int)} (h:qw H NU kk ka) {a:Ask} (ha:∀z,(a,z) ∉ ka):bo kk (d5 a)=none:=by
 rcases h.val a with⟨e,_⟩|⟨v,z,_,_,_,_,_,e,_⟩
 ·exact e
 ·exact absurd e (ha z)
inductive Bi (C D R:Addr) (vs:List V) (H:Hp) (Q:VK) (E:XK):Prop
 |mk {S:Wh}{bg m:Int}{kh kk kq:List (List Key×V)}{ka:List (Ask×Int)}{A:FA}{fr:cj}{lv:List V}{rn:List Str} (_:vs = [.ref S.x,.ref A.x]) (_:mX S.W S.NU) (_:cA C D S bg m kh kk kq ka H) (_:kk.length<=10000) (_:fq R S H A fr lv rn) (_:S.W.Out fr.a (.told fr.t)) (_:∀z,(fr.a,z) ∉ ka) (_:UA S.W S.NU fr.a)
  (_:∀jH sH H',(∀b o,b≠S.kn->b≠S.kp->H b=some o->H' b=some o)->cA C D S bg m kh jH sH (ka ++ [(fr.a,fr.t)]) H'->Q .aF H'):Bi C D R vs H Q E
theorem QU:bF ["self","reckoning","told"] ["self","reckoning"] (aI pw):=bV (by decide +kernel)
theorem acN (F:aY K "settle" "Whole.settle" pw f fd) (B:gV mg) (B2:pO mg) (bst:mg "set" = none) (T:lE K mg C) (TR:pS K mg R):aS P w K mg base aO 1 f fd ["self","reckoning"] (Bi C D R):=by
 refine F.ok QU (fun vs H Q E h=>?_) (fun aH A outer s H vs Q E hr h=>?_)
 ·obtain⟨rfl,_⟩:=h;rfl
 ·obtain @⟨S,bg,m,kh,kk,kq,ka,fa,fr,lv,rn,rfl,wo,h,yD,fh,ho,gq,ua,q⟩:=h
  have bO:=iE hr.units;refine⟨_,aA (ba (i:=2) QU.nd rfl (Or.inl rfl) (bJ (ae (cF (pv 1) rfl) (ae (cF (pv 1) rfl) (ae (gF sX rfl B.tuple boot_tuple (ae (fZ (Wf rfl) rfl B2.sorted boot_sorted (ae (gF (Y7 rfl) rfl bst Yt (ae (cF (pv 1) rfl) ah)) ah)) ah)) ah)))))
   (aA (lq bO (cF (pv 0) rfl) (cF (pv 1) rfl) (pv 2) rfl)
   (aG (lq bO (cF (pv 0) rfl) (cF (pv 1) rfl) (pv 2) rfl))),?_⟩
  have aX:=fh.aX;refine⟨_,rfl,fa.x,R,fa.dx,_,.str fr.w,rfl,fh.hx,TR.cl,TR.nw,NG,_,rfl,fa.x,R,fa.dx,_,.int fr.t,rfl,fh.hx,TR.cl,TR.nt,zS,_,rfl,fa.x,R,fa.dx,_,.ref fa.rs,rfl,fh.hx,TR.cl,TR.nr,MZ,fa.rs,rn,rfl,.inl (ak.of fh.hr),by omega,fun sa ds hsa Cu QV=>?_⟩
  have dl:ds.length<=20:=fw (len_sub Cu fun y hy=>fh.rm y ((QV y).mp hy)) wo.aX;refine⟨sa,ds,rfl,af,by omega,fun DD fU hD pm Ca=>⟨DD,_,rfl,.inl ⟨ak.of af,fun ns fQ=>⟨kQ,fun tt jE=>?_⟩⟩⟩⟩
  generalize w8 (gm aO P w K mg base ["self","reckoning","told"] "Whole.settle" (aI pw) f aH A outer s H E).uG.prog (gm aO P w K mg base ["self","reckoning","told"] "Whole.settle" (aI pw) f aH A outer s H E).uG.w sa ds=so at hD fQ jE ⊢;have Sa:=(ar (o:=so) hsa).trans ((ar (o:= .lst (fU.map V.str)) hD).trans ((ar (o:= .tup (fU.map V.str)) fQ).trans (ar (o:= .tup [V.str fr.w,.int fr.t,.ref ns]) jE)));have QW:upd (upd (upd (upd H sa so) DD (.lst (fU.map V.str))) ns (.tup (fU.map V.str))) tt (.tup [V.str fr.w,.int fr.t,.ref ns]) tt=some (.tup [V.str fr.w,.int fr.t,.ref ns]):=af;have QX:upd (upd (upd (upd H sa so) DD (.lst (fU.map V.str))) ns (.tup (fU.map V.str))) tt (.tup [V.str fr.w,.int fr.t,.ref ns]) ns=some (.tup (fU.map V.str)):=by rw[ag (aq af jE)];exact af
  generalize upd (upd (upd (upd H sa so) DD (.lst (fU.map V.str))) ns (.tup (fU.map V.str))) tt (.tup [V.str fr.w,.int fr.t,.ref ns])=H1 at Sa QW QX ⊢;have w1:=h.same Sa;have i9:=Sa _ _ fh.hx;have jc:H1 fa.ta=some (.tup ((d5 fr.a).map kV)):=Sa _ _ fh.c8;have hql:=h.ql;refine⟨_,rfl,_,rfl,S.x,C,S.dx,_,.ref S.kn,rfl,w1.hx,T.cl,T.nn,nN,_,rfl,fa.x,R,fa.dx,_,.ref fa.ta,rfl,i9,TR.cl,TR.na,Al,S.kn,_,rfl,hZ.t (k:=d5 fr.a) w1.hk jc (by rw[aT];omega),?_⟩
  rw[qT _ (w1.kv.no gq)];have up:∀ {u:HO} b o,b≠S.kn->H1 b=some o->upd H1 S.kn u b=some o:=fun b o n e=>by rw[ag n];exact e
  have ut:∀ {u:HO} b xs,H1 b=some (.tup xs)->upd H1 S.kn u b=some (.tup xs):=fun b xs e=>up _ _ (ao e w1.hk (by intro z;cases z)) e
  have oF:∀ {u:HO},upd H1 S.kn u S.kp=some (.dT kq):=fun {u}=>up _ _ (aN h.n1.2.2.2.2) w1.hq;refine⟨_,rfl,_,rfl,S.x,C,S.dx,_,.ref S.kp,rfl,up _ _ (ao w1.hx w1.hk (by intro z;cases z)) w1.hx,T.cl,T.np,rfl,_,rfl,fa.x,R,fa.dx,_,.ref fa.ta,rfl,up _ _ (ao i9 w1.hk (by intro z;cases z)) i9,TR.cl,TR.na,Al,S.kp,_,rfl,hZ.t (k:=d5 fr.a) oF (ut _ _ jc) (by rw[aT];omega),?_⟩
  have u2:∀ {u u':HO} b o,b≠S.kn->b≠S.kp->H1 b=some o->upd (upd H1 S.kn u) S.kp u' b=some o:=fun b o n1 n2 e=>by rw[ag n2,ag n1];exact e
  have TK:∀ {u u':HO} b xs,H1 b=some (.tup xs)->upd (upd H1 S.kn u) S.kp u' b=some (.tup xs):=fun b xs e=>u2 _ _ (ao e w1.hk (by intro z;cases z)) (ao e w1.hq (by intro z;cases z)) e
  refine q _ _ _ (fun b o n1 n2 e=>u2 _ _ n1 n2 (Sa _ _ e)) (w1.Pf gq ho ua (fun b o n1 n2 e=>u2 _ _ n1 n2 e) (by rw[ag h.n1.2.2.2.2];exact af) af (by have:=tD kq (d5 fr.a) (V.ref tt);omega) ⟨_,ns,fU,TK _ _ QW,TK _ _ QX,pm.nodup_iff.mpr Cu,fun y hy=>fh.rm y ((QV y).mp (pm.mem_iff.mp hy))⟩)
def Tells (t:TT) (σ:St) (H:Hp) (b:Bool):Prop:= ∀R:Bool->Hp->Prop,(∀H1,aB H H1->R b H1)->t σ H R
theorem Tells.and {t u:TT}{a b:Bool} (h:Tells t σ H a) (k:a=true -> ∀H1,aB H H1->Tells u σ H1 b):Tells (Pw t u) σ H (a && b):=fun R q=>h _ fun H1 S1=>by
 cases a with
 |false=>exact q _ S1
 |true=>exact k rfl H1 S1 R fun H2 S2=>q _ (S1.trans S2)
theorem Ek {t:TT}{ts te:TS}{D:Ends}{rt:_}{bk:_}{ct:_}{b:Bool} (h:Tells t (σ.set i (some v)) H b) (k:∀H1,aB H H1->if b=true then ts D (σ.set i (some v)) H1 else te D (σ.set i (some v)) H1):rq i v σ H (Ends.nx (Ends.mk (FJ t ts te D) rt bk ct)):=h _ k
structure Fx (K:Frag) (mg:Str->Option Value) (B C fI:Addr) (TL:FuncData):Prop where
 mC:mg "Missing" = some (.ref C)
 q:jS K C (some (.ref fI))=true
 fn:isFn K (.ref fI)=true
 kp:keepIn K (.ref C)=true
 F:aY K "__init__" "Missing.__init__" qU fI TL
 b:EW K B
 mB:mg "LineError" = some (.ref B)
 bi:Binds K TL ["self","name"] []
 x:gP K C
 nk:findIn K (.ref C) "name" = some none
def AI (C:Addr) (n:Str) (H:Hp) (a:Addr):Prop:= ∃d,H a=some (n8 (some .none) C (some d) a)/\H d=some (iD d [("name",.str n)])
inductive Bj (K:Frag) (vs:List V) (H:Hp) (Q:VK) (E:XK):Prop
 |mk {a C:Addr}{k:V}{i:Option Value} (_:vs = [.ref a,k]) (_:H a=some (cY C none a)) (_:gP K C) (_:jS K C i=true) (_:OX H k) (_:findIn K (.ref C) "name" = some none) (_:∀d H',H d=none->d≠a->H' a=some (cY C (some d) a)->H' d=some (iD d [("name",k)])->Qo a H H'->Q .aF H'):Bj K vs H Q E
theorem Zs (K:Frag) (h:X.K=K) {f:Str} (he:PE X e ta) (hb:attributeBase e f X.env (eval e X.env)=eval e X.env):PE X (.Attribute e f pos) (PK K ta f):=by subst h;exact cF he hb
structure Gu (R:Addr) (S:Wh) (H:Hp) (bw:List (FA×cj)):Prop where
 fr:∀p∈bw,∃lv rn,fq R S H p.1 p.2 lv rn
 nd:(bw.flatMap fun p=>[p.1.x,p.1.lf,p.1.rs]).Nodup
def refs (bw:List (FA×cj)):List V:=bw.map fun p=>V.ref p.1.x
theorem aaJ {a b:Ask}:PyData.eqv (.tuple [.str a.1,.str a.2]) (.tuple [.str b.1,.str b.2])=decide (a=b):=by
 have:=NA [a.1,a.2] [b.1,b.2];have e:PyData.eqv (.tuple [.str a.1,.str a.2]) (.tuple [.str b.1,.str b.2])=PyData.eqvAll ([a.1,a.2].map PyData.str) ([b.1,b.2].map PyData.str):=by first|rfl|simp[PyData.eqv]
 rw[e,this];exact V5.mpr ⟨fun h=>by injection h with h1 h2;injection h2 with h3 _;exact Prod.ext h1 h3,fun h=>by rw[h]⟩
theorem UA.str {W:aZ} (wo:mX W NU) {a:Ask} (u:UA W NU a):PyData.strOk a.1=true/\PyData.strOk a.2=true:=by
 refine⟨AB (wo.nm _ u.1),?_⟩;rcases u.2 with z|z
 ·rw[z];decide +kernel
 ·exact AB (wo.lm _ z)
theorem aem:bF ["self","name"] ["self","name"] (aI qU):=bV (by decide +kernel)
theorem acO (F:aY K "__init__" "Missing.__init__" qU f fd) (b:EW K B) (mB:mg "LineError" = some (.ref B)):aS P w K mg base aO 1 f fd ["self","name"] (Bj K):=by
 refine F.ok aem (fun vs H Q E h=>?_) (fun aH A outer s H vs Q E hr h=>?_)
 ·obtain⟨rfl,_⟩:=h;rfl
 ·obtain @⟨a,C,k,i,rfl,ha,c,qi,fk,nk,q⟩:=h
  have hu:=hr.units;have hg:=hr.gd;refine⟨_,aA (gG (WL b rfl mB (ae (pv 0) (ae (ZS (N2 b9 (N2 (aa6 hu hg (pv 1)) aa9))) ah)))) (aG (ZU (pv 0) (pv 1))),?_⟩;refine⟨_,rfl,⟨_,rfl,by decide +kernel⟩,_,rfl,fk,fun y1 IL=>⟨⟨_,rfl,IL⟩,fun y hy=>?_⟩⟩
  refine⟨a,C,none,_,i,rfl,ha,c,qi,?_⟩;refine⟨_,rfl,_,rfl,a,C,rfl,ha,c,nk,fun d hd CG=>?_⟩;exact q d _ hd CG af (by rw[ag CG];exact af) (Zh hd)
inductive xk (C D R M:Addr) (vs:List V) (H:Hp) (Q:VK) (E:XK):Prop
 |mk {S:Wh}{bg m:Int}{kh kk kq:List (List Key×V)}{ka:List (Ask×Int)}{st ta:Addr}{bw:List (FA×cj)}{b:Ask} (_:vs = [.ref S.x,.ref st,.ref ta]) (_:mX S.W S.NU) (_:cA C D S bg m kh kk kq ka H) (_:kh.length<=900000) (_:kk.length<=10000) (_:H st=some (.lst (refs bw))) (_:bw.length<=1000) (_:Gu R S H bw) (_:∀p∈bw,UA S.W S.NU p.2.a) (_:H ta=some (.tup [.str b.1,.str b.2])) (_:UA S.W S.NU b) (_:(∀z,(b,z) ∉ ka) -> ∀p∈bw,p.2.a≠b)
  (_:∀z,(b,z)∈ka->Q .aF H)
  (_:(∀z,(b,z) ∉ ka)->S.W.Out b (.miss b.1) -> ∀a H',Kp S H H'->H a=none->AI M b.1 H' a->E (.ref M) (some a) H')
  (_:∀z jH bA m' H',(∀z,(b,z) ∉ ka)->S.W.Out b (.told z)->(∀y o,y≠S.fi->y≠S.dh->y≠S.kn->H y=some o->H' y=some o)->cA C D S bg m' bA jH kq (ka ++ [(b,z)]) H'->bA.length<=kh.length+1->Q .aF H')
  (_:∀fa fr lv rn bA m' H',(∀z,(b,z) ∉ ka)->fr.a=b->df S.W fr->fr.w∈S.W.line->(∀y o,y≠S.fi->y≠S.dh->y≠S.x->y≠st->H y=some o->H' y=some o)->cA C D S (bg+1) m' bA kk kq ka H'->bA.length<=kh.length+1->H' st=some (.lst (refs (bw ++ [(fa,fr)])))->fq R S H' fa fr lv rn->H fa.x=none->H fa.lf=none->H fa.rs=none->fa.x≠fa.lf->fa.x≠fa.rs->Q .aF H'):xk C D R M vs H Q E
abbrev TN:List Str:= ["self","standing","asking","name","behind","hit"]
theorem Bm:bF TN ["self","standing","asking"] (aI pG):=bV (by decide +kernel)
def acP (s:Stmt):Expr:=match s with|.If t _ _ _=>t|_=>.Constant .none 0 ⟨0,0,0,0⟩
abbrev eEn:Expr:=Pe (acP (cG (bH pG) 1))
theorem QY:cK TN (aI pG) ["reckoning"] [none] (eg eEn):=gi (by decide +kernel)
theorem acQ {fG fR:Addr}{dG:FuncData} (F:aY K "enter" "Whole.enter" pG f fd) (T:lE K mg C) (TF:pR K mg D) (TR:pS K mg R) (TM:Fx K mg B M fI dI) (GL:aS P w K mg base aO 2 fL dL ["self","kind","name","behind"] (uf D)) (ML:Meth K D "look" fL) (bL:Binds K dL ["self","kind","name","behind"] []) (GG:dq P w K mg base aO 1 fG dG ["entry"] Bb "goes_first") (GS:dq P w K mg base aO 1 fS dS ["entry"] Bc "steps_of")
  (MR:Mk K R fR) (GR:aS P w K mg base aO 1 fR dR yB (Bd R)) (bR:Binds K dR yB []):aS P w K mg base (d9 P w) 3 f fd ["self","standing","asking"] (xk C D R M):=by
 have GI:aS P w K mg base aO 1 fI dI ["self","name"] (Bj K):=acO TM.F TM.b TM.mB;refine F.Jn Bm (fun vs H Q E h=>?_) (fun aH A outer s H vs Q E hr h=>?_)
 ·obtain⟨rfl,_⟩:=h;rfl
 ·obtain @⟨S,bg,m,kh,kk,kq,ka,st,ta,bw,b,rfl,wo,h,yD,hkk,fj,hfl,fs,fu,c8,ub,fQ,qk,qm,ql,qp⟩:=h
  have d6:bb 2 _:=hr;have bZ:bb 1 _:=d6.mono (by decide)
  have hu:=hr.units;have bO:=iE hu;refine⟨_,aA (cf (mj (pF bO (pv 2) (cF (pv 0) rfl))) (aG ZE) cO)
   (aA (cf (bK (aa5 hu) (pv 2) (gM rfl QY (gB (pv 1)) (fun s H fp=>⟨bp (i:=0) QY.nd rfl (Or.inl rfl),hJ,Zs K rfl (pv 0) rfl⟩)) rfl) zx cO)
   (aA (qY (pv 2) (pD rfl (eY (bp (i:=3) Bm.nd rfl (Or.inl rfl)) (eY (bp (i:=4) Bm.nd rfl (Or.inl rfl)) lj))))
   (aA (ba (i:=5) Bm.nd rfl (Or.inl rfl) (ll (cF (pv 0) rfl) TF.cl ML GL d6 bL .nil eF (ae (cF (pv 0) rfl) (ae (pv 3) (ae (pv 4) ah)))))
   (aG (cf (PW.pt (pw_and (bK ly (pv 4) b9 (bQ _)) (pw_and (mj (pF bO (pv 3) (cF (pv 0) rfl))) (pw_and1 (PW.pt (pw_or (bK pE (pv 5) iy (bQ _)) (pw_or1 (pB (pA (cQ GG bZ (ae (a6 cx (pv 5) ay (fun _ _=>rfl)) ah)))))))))))
    (aG (lq bO (cF (pv 0) rfl) (pv 2) (bJ (ae b9 (ae (jP bO (cF (pv 0) rfl) (pv 3) (fun _ _=>rfl)) (ae (bJ (ae (pv 3) ah)) ah)))) rfl))
    (aG (cf (bK pE (pv 5) iy (bQ _)) (aG (Yh (ZT TM.q TM.fn TM.kp GI d6 TM.bi eF rfl TM.mC (ae (pv 3) ah))))
     (aG (cf (bK ly (a6 cx (a6 cx (pv 5) ay (fun _ _=>rfl)) ay (fun _ _=>rfl)) b9 (bQ _))
      (aG (lq bO (cF (pv 0) rfl) (pv 2) (bJ (ae (a6 cx (pv 5) ay (fun _ _=>rfl)) (ae (a6 cx (a6 cx (pv 5) ay (fun _ _=>rfl)) ay (fun _ _=>rfl)) (ae (bJ (ae (pv 3) ah)) ah)))) rfl))
      (aA (vF (pv 0) ay Ac) (aG (gG (jq k9 vx vy o8 (pv 1) (ae (Es MR GR d6 rfl TR.yw bR .nil eF (ae (pv 2) (ae (a6 cx (pv 5) ay (fun _ _=>rfl)) (ae (cQ GS bZ (ae (a6 cx (pv 5) ay (fun _ _=>rfl)) ah)) ah)))) ah)))))))))))))),?_⟩
  have qx:H ta=some (.tup ((d5 b).map kV)):=c8;refine⟨_,rfl,_,rfl,S.x,C,S.dx,_,.ref S.kn,rfl,h.hx,T.cl,T.nn,nN,S.kn,_,rfl,cU.t (k:=d5 b) h.hk qx,_,rfl,?_⟩;rcases h.kv.val b with⟨e1,m4⟩|⟨v,z,t0,y,ns,nv,e1,e3,_⟩
  ·rw[e1]
   have fQ:=fQ m4;refine⟨_,rfl,_,rfl,st,rfl,⟨_,ak.of fj⟩,fun c hc=>?_⟩;refine iS (xs:=refs bw) (fun i ys τ H2=>∃t0:Option V,τ = [t0]/\aB H H2/\H2 c=some (.lst ys)/\ys=(bw.take i).map fun p=>V.ref p.1.ta) ⟨none,rfl,ar hc,af,rfl⟩ (fun i ys τ H2 ⟨_,_,z1,z2,_⟩=>⟨z2,ak.of (z1 _ _ fj)⟩) ?_ ?_
   ·rintro i y ys τ H2 hy ⟨t0,rfl,S2,h2,rfl⟩
    have b6:i < (refs bw).length:=(cu.mp hy).1;have cD:i < bw.length:=by unfold refs at b6;rwa [aJ]at b6
    obtain rfl:V.ref bw[i].1.x=y:=by unfold refs at hy;simpa [cD] using hy
    have gf:bw.take (i+1)=bw.take i ++ [bw[i]]:=by rw[eX,b4 cD];rfl
    obtain⟨lv,rn,fh⟩:=fs.fr bw[i] (kY cD);refine⟨_,rfl,bw[i].1.x,R,_,_,.ref bw[i].1.ta,rfl,S2 _ _ fh.hx,TR.cl,TR.na,Al,h2,by rw[aJ,eJ,aT];omega,cw_next b6 ⟨_,rfl,fun b o e=>by rw[ag (aq e hc)];exact S2 _ _ e,af,?_⟩⟩
    rw[gf,bB];rfl
   rintro ys τ H1 ⟨t0,rfl,S1,h1,rfl⟩;have el:(refs bw).length=bw.length:=by unfold refs;rw[aJ]
   rw[el,eK]at h1;have QZ:∀l:List (FA×cj),(∀p∈l,p∈bw)->cP H1 (l.map fun p=>V.ref p.1.ta) (l.map fun p=>PyData.tuple [.str p.2.a.1,.str p.2.a.2])/\PyData.canLayAll0 (l.map fun p=>PyData.tuple [.str p.2.a.1,.str p.2.a.2])=true:=by
    intro l
    induction l with
    |nil=>exact fun _=>⟨.nil,rfl⟩
    |cons p l ih =>
     intro hm;obtain⟨i1,i2⟩:=ih fun q hq=>hm q (bq _ hq);obtain⟨lv,rn,fh⟩:=fs.fr p (hm p aW);obtain⟨s1,s2⟩:=(fu p (hm p aW)).str wo;refine⟨.cons (.tup (S1 _ _ fh.c8) (.cons (.str _) (.cons (.str _) .nil))) i1,?_⟩;show((PyData.strOk p.2.a.1 && (PyData.strOk p.2.a.2 && true)) && PyData.canLayAll0 _)=true;rw[s1,s2,i2];rfl
   obtain⟨rL,cL⟩:=QZ bw fun _ h=>h;obtain⟨s1,s2⟩:=ub.str wo;refine⟨.tuple [.str b.1,.str b.2],_,.tup (S1 _ _ c8) (.cons (.str _) (.cons (.str _) .nil)),.inl (.lst h1 rL),by show(PyData.strOk b.1 && (PyData.strOk b.2 && true))=true;rw[s1,s2];rfl,cL,by simp[PyData.depth,PyData.depthAll],_,rfl,?_⟩
   rw[aj cw];have aen:((bw.map fun p=>PyData.tuple [.str p.2.a.1,.str p.2.a.2]).any fun y=>PyData.eqv y (.tuple [.str b.1,.str b.2]))=false:=by
    rw[KS];intro y hy;obtain⟨p,hp,rfl⟩:=br.mp hy;rw[aaJ,ji (fQ p hp)];exact cw
   rw[aen];have iG:=S1 _ _ c8;have ki:=h.same S1;have j3:=S1 _ _ fj;clear h1 rL QZ;refine⟨_,rfl,ta,_,rfl,aE.of iG,rfl,_,_,rfl,_,_,rfl,rfl,?_⟩;refine⟨_,rfl,S.x,C,S.dx,_,.ref S.fi,rfl,ki.hx,T.cl,T.nf,Ej,S.fi,S.fx,_,rfl,ki.fi.hx,Fw (by decide +kernel) (by decide +kernel) (by decide +kernel) (by decide +kernel),_,rfl,S.x,C,S.dx,_,.str S.kd,rfl,ki.hx,T.cl,T.nk,EJ,_,rfl,_,rfl,uf.mk rfl ki.fi ki.ln (by rw[h.el];have:=wo.ln;omega) (by rw[h.el];exact ub.2) ki.eQ (by omega) fun v bA m' H2 gK jI i8 l2 ov=>?_⟩
   have w2:=ki.looked gK jI i8;have kp:Kp S H H2:=fun b o n1 n2 z=>gK b o n1 n2 (S1 _ _ z);rw[h.el]at ov;have ov:og H2 v (S.W.look b):=ov;have aeo:=gK _ _ (ao iG ki.fi.hx (by intro z;cases z)) (ao iG ki.fi.hh (by intro z;cases z)) iG
   have aep:=gK _ _ (ao j3 ki.fi.hx (by intro z;cases z)) (ao j3 ki.fi.hh (by intro z;cases z)) j3
   have JV:∀y,H2 y=none->H y=none:=fun y e=>by
    cases e0:H y with
    |none=>rfl
    |some u =>
     by_cases z1:y=S.fi
     ·rw[z1,w2.fi.hx]at e;cases e
     ·by_cases z2:y=S.dh
      ·rw[z2,w2.fi.hh]at e;cases e
      ·rw[kp y u z1 z2 e0]at e;cases e
   have ent:∀wh d,S.W.look b=some (wh,d)->Ent d:=fun wh d e=>(vY wo.bk wh d e).2;have TQ:∀z H3 tt ns,aB H2 H3->S.W.Out b (.told z)->(∃y,H3 tt=some (.tup [y,.int z,.ref ns]))->H3 ns=some (.tup [.str b.1])->Q .aF (upd H3 S.kn (.dT (putK kk (d5 b) (.ref tt)))):=fun z H3 tt ns S3 ho ⟨y,h1t⟩ h1n=>by
    have w3:=w2.same S3;rw[qT _ (w3.kv.no m4)];have up:∀ {u:HO} x o,x≠S.kn->H3 x=some o->upd H3 S.kn u x=some o:=fun x o n e=>by rw[ag n];exact e
    have ut:∀ {u:HO} x xs,H3 x=some (.tup xs)->upd H3 S.kn u x=some (.tup xs):=fun x xs e=>up _ _ (ao e w3.hk (by intro z;cases z)) e
    refine ql z _ bA m' _ m4 ho (fun x o n1 n2 n3 e=>up _ _ n3 (S3 _ _ (kp x o n1 n2 e))) (w3.Pf m4 ho ub (fun x o n1 n2 e=>up _ _ n1 e) af (up _ _ (aN h.n1.2.2.2.2) w3.hq) (Di h.ql) ⟨y,ns,[b.1],ut _ _ h1t,ut _ _ h1n,by simp,fun y hy=>by rw[dH.mp hy];exact ub.1⟩) l2
   refine Ek (b:=decide (V.str b.2=V.str "") && ((bo (lF S.W.own) (Sum.inr b.1)).isSome && S.W.qv b)) (.and (fun R k=>⟨_,rfl,rfl,_,rfl,k _ fun _ _ e=>e⟩) fun _ H3 S3=>.and (fun R k=>⟨_,rfl,_,rfl,S.x,C,S.dx,_,.ref S.ow,rfl,S3 _ _ w2.hx,T.cl,T.no,OP,S.ow,_,rfl,cU.k (k:=Sum.inr b.1) (S3 _ _ w2.ho),_,rfl,k _ fun _ _ e=>e⟩) fun _ H4 S4 R k=>?_) fun H3 S3=>?_
   ·have S4:=S3.trans S4
    cases ef:S.W.look b with
    |none =>
     rw[ef]at ov;rw[show S.W.qv b=true by unfold aZ.qv;rw[ef]]at k
     have ov:v=V.aF:=ov;subst ov;exact⟨_,rfl,rfl,_,rfl,k _ fun _ _ e=>e⟩
    |some p =>
     obtain⟨y,d⟩:=p;rw[ef]at ov;rw[show S.W.qv b = !wm d by unfold aZ.qv;rw[ef]]at k
     obtain⟨t,u,rfl,ht,ru⟩:=ov;refine⟨_,rfl,rfl,_,rfl,_,rfl,t,_,1,_,rfl,rfl,aE.of (S4 _ _ ht),iY,Bb.mk rfl (ent _ _ ef) (ru.same S4) fun H5 S5=>⟨_,rfl,k _ S5⟩⟩
   have w3:=w2.same S3;have Gv:=S3 _ _ aeo
   by_cases cb:b.2 = "" /\ (S.W.own.lookup b.1).isSome=true/\S.W.qv b=true
   ·obtain⟨TU,cb2,TV⟩:=cb
    obtain⟨z,hz⟩:=Vh.mp cb2;have ev:bo (lF S.W.own) (Sum.inr b.1)=some (.int z):=by rw[Ol,hz];rfl
    have eo:S.W.j0 b=some z:=by unfold aZ.j0;rw[ax ⟨TU,TV⟩,hz]
    rw[ax (by rw[ev,TV,TU];rfl)]
    refine⟨_,rfl,S.x,C,S.dx,_,.ref S.ow,rfl,w3.hx,T.cl,T.no,OP,_,rfl,S.ow,.int z,rfl,by rw[<-ev];exact cU.k (k:=Sum.inr b.1) w3.ho,_,rfl,gI,fun t1 yG=>⟨kQ,fun t2 yH=>?_⟩⟩
    have S4:=(ar (o:= .tup [V.str b.1]) yG).trans (ar (o:= .tup [V.str "",.int z,.ref t1]) yH);have xl:upd (upd H3 t1 (.tup [V.str b.1])) t2 (.tup [V.str "",.int z,.ref t1]) t2=some (.tup [V.str "",.int z,.ref t1]):=af;have xm:upd (upd H3 t1 (.tup [V.str b.1])) t2 (.tup [V.str "",.int z,.ref t1]) t1=some (.tup [V.str b.1]):=by rw[ag (aq af yH)];exact af
    generalize upd (upd H3 t1 (.tup [V.str b.1])) t2 (.tup [V.str "",.int z,.ref t1])=H4 at S4 xl xm ⊢;refine⟨_,rfl,S.x,C,S.dx,_,.ref S.kn,rfl,S4 _ _ w3.hx,T.cl,T.nn,nN,_,rfl,S.kn,_,rfl,hZ.t (k:=d5 b) (S4 _ _ w3.hk) (S4 _ _ Gv) (by rw[aT];omega),?_⟩
    exact TQ z H4 t2 t1 (S3.trans S4) (Out.own eo) ⟨_,xl⟩ xm
   have eo:S.W.j0 b=none:=by
    unfold aZ.j0
    by_cases c1:b.2 = "" /\ S.W.qv b=true
    ·rw[ax c1]
     cases e:S.W.own.lookup b.1 with
     |none=>rfl
     |some z=>exact absurd ⟨c1.1,by rw[e];rfl,c1.2⟩ cb
    ·rw[aj c1]
   rw[aj (fun z=>cb (by
    rw[nE,nE,Ol,Le]at z;refine⟨?_,z.2.1,z.2.2⟩;have e:=iQ z.1;injection e))]
   cases ef:S.W.look b with
   |none =>
    rw[ef]at ov;have ov:v=V.aF:=ov;subst ov;refine⟨_,rfl,rfl,_,rfl,_,rfl,by show 1<=100;decide,fun a ha=>Bj.mk rfl af TM.x TM.q (.inl ⟨_,rfl,by have:=(wo.nm _ ub.1).hi;omega⟩) TM.nk fun d H4 hd CG ki xS iq=>⟨rfl,a,M,some d,_,rfl,ki,fun d' ed=>by cases ed;exact⟨_,xS⟩,TM.x,TM.q,JV _ (S3.free ha),?_⟩⟩
    refine qm m4 (Out.none eo ef) a _ (fun y u n1 n2 e=>?_) (JV _ (S3.free ha)) ⟨d,af,by rw[ag CG];exact xS⟩
    have e3:=S3 _ _ (kp y u n1 n2 e);have nb:y≠a:=aq e3 ha;rw[ag nb];exact iq y u (by rw[ag nb];exact e3) nb
   |some p =>
    obtain⟨y,d⟩:=p;rw[ef]at ov;obtain⟨t,u,rfl,ht,ru⟩:=ov;have en:=ent _ _ ef;have yI:=S3 _ _ ht;have u9:=ru.same S3;obtain⟨ea,xs,rfl,yJ⟩:=EK en u9;refine⟨_,rfl,rfl,_,rfl,_,rfl,t,_,1,_,rfl,rfl,aE.of yI,iY,ea,_,0,_,rfl,rfl,aE.of yJ,gn,rfl,_,rfl,?_⟩;refine c7 (fun e=>?_) (fun e=>?_)
    ·have e:b7 d = "plain" :=by
      have:=iQ e;injection this
     cases en with
     |ahead x n=>exact absurd e (by show ¬ ((("ahead" : Str)) = "plain");decide +kernel)
     |behind ds=>exact absurd e (by show ¬ ((("behind" : Str)) = "plain");decide +kernel)
     |uA ds=>exact absurd e (by show ¬ ((("shut" : Str)) = "plain");decide +kernel)
     |plain n hn =>
      obtain⟨uK,u',BV,aeq,r1'⟩:=two1 u9;cases BV
      obtain rfl:=r1'.pQ;have ho:S.W.Out b (.told n):=by
       have:=(df.new (W:=S.W) eo ef).up 0 (.told n) (by show some (Rs.told (stepT 0 (.tuple [.str "add",.int n])))=_;rw[show stepT 0 (.tuple [.str "add",.int n])=n from(by show 0+n=n;omega)])
       exact this
      refine⟨_,rfl,t,_,0,_,rfl,rfl,aE.of yI,gn,_,rfl,t,_,1,_,rfl,rfl,aE.of yI,iY,ea,_,1,_,rfl,rfl,aE.of aeq,iY,_,rfl,gI,fun t1 yG=>⟨kQ,fun t2 yH=>?_⟩⟩;have S4:=(ar (o:= .tup [V.str b.1]) yG).trans (ar (o:= .tup [V.str y,.int n,.ref t1]) yH);have xl:upd (upd H3 t1 (.tup [V.str b.1])) t2 (.tup [V.str y,.int n,.ref t1]) t2=some (.tup [V.str y,.int n,.ref t1]):=af;have xm:upd (upd H3 t1 (.tup [V.str b.1])) t2 (.tup [V.str y,.int n,.ref t1]) t1=some (.tup [V.str b.1]):=by rw[ag (aq af yH)];exact af
      generalize upd (upd H3 t1 (.tup [V.str b.1])) t2 (.tup [V.str y,.int n,.ref t1])=H4 at S4 xl xm ⊢;refine⟨_,rfl,S.x,C,S.dx,_,.ref S.kn,rfl,S4 _ _ w3.hx,T.cl,T.nn,nN,_,rfl,S.kn,_,rfl,hZ.t (k:=d5 b) (S4 _ _ w3.hk) (S4 _ _ Gv) (by rw[aT];omega),?_⟩
      exact TQ n H4 t2 t1 (S3.trans S4) ho ⟨_,xl⟩ xm
    ·have e:b7 d ≠ "plain" :=fun z=>e (by rw[z];exact fY rfl)
     have Q0:=S3 _ _ aep;refine⟨_,rfl,S.x,C,S.dx,_,.int bg,rfl,w3.hx,T.cl,T.nb,rfl,_,_,rfl,rfl,S.dx,_,w3.hx,by show 6 < 1000;decide,?_⟩
     rw[show cg "begun" (.int (bg+1)) (fW S.fi S.ow S.kp S.kn S.kd bg)=fW S.fi S.ow S.kp S.kn S.kd (bg+1) from rfl];have kx:∀x o,x≠S.x->H3 x=some o->upd H3 S.x (.ins C S.dx (fW S.fi S.ow S.kp S.kn S.kd (bg+1))) x=some o:=fun x o n e=>by rw[ag n];exact e
     have CH:upd H3 S.x (.ins C S.dx (fW S.fi S.ow S.kp S.kn S.kd (bg+1))) S.x=some (.ins C S.dx (fW S.fi S.ow S.kp S.kn S.kd (bg+1))):=af;generalize upd H3 S.x (.ins C S.dx (fW S.fi S.ow S.kp S.kn S.kd (bg+1)))=H4 at kx CH ⊢;have nt:∀ {x:Addr}{xs:List V},H3 x=some (.tup xs)->x≠S.x:=fun e=>ao e w3.hx (by intro z;cases z)
     have gy:∀x xs,H3 x=some (.tup xs)->H4 x=some (.tup xs):=fun x xs e=>kx _ _ (nt e) e;have w4:cA C D S (bg+1) m' bA kk kq ka H4:=by
      obtain⟨la,l1,l3⟩:=w3.ln;exact⟨h.n3,CH,⟨kx _ _ (aN h.n3) w3.fi.hx,kx _ _ (ao w3.fi.hl w3.hx (by intro z;cases z)) w3.fi.hl,kx _ _ (ao w3.fi.he w3.hx (by intro z;cases z)) w3.fi.he,kx _ _ (ao w3.fi.hh w3.hx (by intro z;cases z)) w3.fi.hh,w3.fi.du.keep gy wo.bk.ent,wo.bk,w3.fi.nn⟩,kx _ _ (ao w3.ho w3.hx (by intro z;cases z)) w3.ho,kx _ _ (ao w3.hk w3.hx (by intro z;cases z)) w3.hk,kx _ _ (ao w3.hq w3.hx (by intro z;cases z)) w3.hq,h.n1,⟨la,l1,gy _ _ l3⟩,h.el,w3.eQ.keep wo.bk gy,w3.kv.keep gy,h.ok,h.nd,h.sF,h.ql⟩
     have lG:=kx _ _ (ao Q0 w3.hx (by intro z;cases z)) Q0
     refine⟨_,rfl,.inl ⟨rfl,_,ak.of lG⟩,_,rfl,_,rfl,t,_,0,_,rfl,rfl,aE.of (gy _ _ yI),gn,_,rfl,t,_,1,_,rfl,rfl,aE.of (gy _ _ yI),iY,Bc.mk rfl en (en.keep u9 gy) e fun ts us H5 S5 Cz rus=>?_⟩;intro x dx hx qu ne;have di:upd H5 dx (.own x) x=none:=by rw[ag (aN ne)];exact hx
     have S6:=(ar (o:= .own x) qu).trans (ar (o:= .ins R dx []) di);have CI:upd (upd H5 dx (.own x)) x (.ins R dx []) x=some (.ins R dx []):=af;generalize upd (upd H5 dx (.own x)) x (.ins R dx [])=H6 at S6 CI ⊢;have rP:=S5 _ _ (gy _ _ Gv);refine Bd.mk rfl CI (S6 _ _ rP) (S6 _ _ Cz) fun lf rs H7 gJ lV jh k7 TX hl7 vb=>⟨rfl,?_⟩;have sI:aB H5 H7:=fun c o e=>k7 _ _ (aq e hx) (S6 _ _ e);have JW:=S5.trans sI;have Bn:=JW _ _ lG;refine⟨st,refs bw,_,rfl,rfl,Bn,by unfold refs;rw[aJ,aT];omega,?_⟩
     have qy:∀c,H4 c=none->H c=none:=fun c e=>JV _ (S3.free (by
      cases e0:H3 c with
      |none=>rfl
      |some u =>
       by_cases z:c=S.x
       ·rw[z,CH]at e;cases e
       ·rw[kx _ _ z e0]at e;cases e))
     have up:∀ {u:HO} c o,c≠st->H7 c=some o->upd H7 st u c=some o:=fun c o n e=>by rw[ag n];exact e
     have ut:∀ {u:HO} c xs,H7 c=some (.tup xs)->upd H7 st u c=some (.tup xs):=fun c xs e=>up _ _ (ao e Bn (by intro z;cases z)) e
     have Q1:=S6 _ _ (S5 _ _ lG);have nls:lf≠st:=aN (aq Q1 gJ);have nrs:rs≠st:=aN (aq Q1 lV);have nxl:x≠lf:=aq CI gJ;have yC:x≠rs:=aq CI lV;obtain⟨TY,el4⟩:=Zq en;refine qp ⟨x,dx,ta,lf,rs⟩ ⟨b,y,iA d,0⟩ us [b.1] bA m' _ m4 rfl (df.new eo ef) (aaI ef) (fun c o n1 n2 n3 n4 e=>up _ _ n4 (JW _ _ (kx _ _ n3 (S3 _ _ (kp c o n1 n2 e))))) ((w4.same JW).write fun c o nl _ e=>up _ _ (fun z=>by rw[z,Bn]at e;cases e;exact nl _ rfl) e) l2 (by rw[af];unfold refs;rw[bB];rfl) ⟨up _ _ (ao TX Bn (by intro z;cases z)) TX,ut _ _ (sI _ _ rP),up _ _ nls hl7,o9 (fun c xs e=>ut _ _ (sI _ _ e)) rus TY,TY,fun s hs ht=>wo.ask _ (qN (vX ef).2) s hs ht,up _ _ nrs vb,fun z hz=>by rw[dH.mp hz];exact ub.1,by show 1+(iA d).length * 20<=99;omega,jh,aN (aq (S5 _ _ CH) hx),aN (aq (S5 _ _ w4.fi.hx) hx)⟩ (qy _ (S5.free hx)) (qy _ (S5.free (S6.free gJ))) (qy _ (S5.free (S6.free lV))) nxl yC
  ·rw[e1]
   exact qk z e3
theorem Fy {α:Type} [DecidableEq α]:∀ {a b:List α},a.Nodup->(∀x∈a,x∈b)->a.length<=b.length
 |[],_,_,_=>bf _
 |x::a,b,nd,h=>by
  obtain⟨n1,n2⟩:=g8.mp nd;have hx:=h x aW;have:=Fy (b:=b.erase x) n2 fun y hy=>(Vw (fun e=>n1 (by rw[<-e];exact hy))).mpr (h y (bq _ hy))
  rw[Vu hx]at this;have:=Vv hx;rw[d7];omega
def ia (W:aZ) (NU:List Str):List Ask:=NU.flatMap fun n=>(("" : Str)::W.line).map fun k=>(n,k)
theorem NH {W:aZ}{a:Ask} (h:UA W NU a):a∈ia W NU:=by
 unfold ia;refine Dq.mpr ⟨a.1,h.1,br.mpr ⟨a.2,?_,rfl⟩⟩;rcases h.2 with z|z
 ·rw[z];exact aW
 ·exact bq _ z
theorem Zt {W:aZ} (wo:mX W NU):(ia W NU).length<=200:=by
 have:∀l:List Str,(l.flatMap fun n=>(("" : Str)::W.line).map fun k=>((n,k):Ask)).length=l.length * (W.line.length+1):=by
  intro l
  induction l with
  |nil=>simp
  |cons x l ih=>rw[List.flatMap_cons,dz,ih,aJ,d7,d7,Nat.add_mul (l.length) 1];omega
 unfold ia;rw[this];have h1:=wo.aX;have h2:=wo.ln
 calc NU.length * (W.line.length+1)<=20 * 10:=Nat.mul_le_mul h1 (by omega)
  _=200:=rfl
def kj (U k s:Nat):Nat:=(U - k) * (U+2)+(U - s)
theorem Zu {k s:Nat} (h:s+1<=U):kj U k (s+1) < kj U k s:=by unfold kj;omega
theorem DY {k s s':Nat} (h:k+1<=U):kj U (k+1) s' < kj U k s:=by
 unfold kj;have e:U - k=(U - (k+1))+1:=by omega
 rw[e,Nat.add_mul,Nat.one_mul];generalize (U - (k+1)) * (U+2)=x;omega
theorem fq.fr {S:Wh}{ka:List (Ask×Int)}{A:FA}{f:cj}{sv:List V}{st:Addr} (h:fq R S H A f lv rn) (w:cA C D S bg m kh kk kq ka H) (fj:H st=some (.lst sv)) (n:A.lf≠st/\A.rs≠st) (k:∀b o,b≠S.fi->b≠S.dh->b≠S.kn->b≠S.kp->b≠S.x->b≠st->H b=some o->H' b=some o):fq R S H' A f lv rn:=by
 have kl:∀b xs,b≠st->H b=some (.lst xs)->H' b=some (.lst xs):=fun b xs n e=>k _ _ (ao e w.fi.hx (by intro z;cases z)) (ao e w.fi.hh (by intro z;cases z)) (ao e w.hk (by intro z;cases z)) (ao e w.hq (by intro z;cases z)) (ao e w.hx (by intro z;cases z)) n e
 have kt:∀b xs,H b=some (.tup xs)->H' b=some (.tup xs):=fun b xs e=>k _ _ (ao e w.fi.hx (by intro z;cases z)) (ao e w.fi.hh (by intro z;cases z)) (ao e w.hk (by intro z;cases z)) (ao e w.hq (by intro z;cases z)) (ao e w.hx (by intro z;cases z)) (ao e fj (by intro z;cases z)) e
 exact⟨k _ _ h.nf (ao h.hx w.fi.hh (by intro z;cases z)) (ao h.hx w.hk (by intro z;cases z)) (ao h.hx w.hq (by intro z;cases z)) h.nx (ao h.hx fj (by intro z;cases z)) h.hx,kt _ _ h.c8,kl _ _ n.1 h.hl,o9 kt h.rl h.st,h.st,h.an,kl _ _ n.2 h.hr,h.rm,h.aX,h.jh,h.nx,h.nf⟩
theorem fq.go {S:Wh}{ka:List (Ask×Int)}{A A':FA}{f:cj} (h:fq R S H A f lv rn) (w:cA C D S bg m kh kk kq ka H) (hx:∃c dx fs,H A'.x=some (.ins c dx fs)) (hl:∃xs,H A'.lf=some (.lst xs)) (hr:∃xs,H A'.rs=some (.lst xs)) (n:A.x≠A'.x/\A.lf≠A'.lf/\A.lf≠A'.rs/\A.rs≠A'.lf/\A.rs≠A'.rs) (k:Kr S A' H H'):fq R S H' A f lv rn:=by
 obtain⟨c,dx,fs,hx⟩:=hx;obtain⟨x1,hl⟩:=hl;obtain⟨x2,hr⟩:=hr;have kt:∀b xs,H b=some (.tup xs)->H' b=some (.tup xs):=fun b xs e=>k _ _ (ao e w.fi.hx (by intro z;cases z)) (ao e w.fi.hh (by intro z;cases z)) (ao e hx (by intro z;cases z)) (ao e hl (by intro z;cases z)) (ao e hr (by intro z;cases z)) e
 have kl:∀b xs,b≠A'.lf->b≠A'.rs->H b=some (.lst xs)->H' b=some (.lst xs):=fun b xs n1 n2 e=>k _ _ (ao e w.fi.hx (by intro z;cases z)) (ao e w.fi.hh (by intro z;cases z)) (ao e hx (by intro z;cases z)) n1 n2 e
 exact⟨k _ _ h.nf (ao h.hx w.fi.hh (by intro z;cases z)) n.1 (ao h.hx hl (by intro z;cases z)) (ao h.hx hr (by intro z;cases z)) h.hx,kt _ _ h.c8,kl _ _ n.2.1 n.2.2.1 h.hl,o9 kt h.rl h.st,h.st,h.an,kl _ _ n.2.2.2.1 n.2.2.2.2 h.hr,h.rm,h.aX,h.jh,h.nx,h.nf⟩
abbrev adr (l:List (FA×cj)):List Addr:=l.flatMap fun p=>[p.1.x,p.1.lf,p.1.rs]
theorem Yu {l:List (FA×cj)}{p q:FA×cj} (nd:(adr (l ++ [q])).Nodup) (hp:p∈l):p.1.x≠q.1.x/\p.1.lf≠q.1.lf/\p.1.lf≠q.1.rs/\p.1.rs≠q.1.lf/\p.1.rs≠q.1.rs:=by
 unfold adr at nd;rw[Dr]at nd;have ap:=(g9.mp nd).2.2;have m:∀y,y=p.1.x\/y=p.1.lf\/y=p.1.rs->y∈l.flatMap fun p=>[p.1.x,p.1.lf,p.1.rs]:=fun y hy=>Dq.mpr ⟨p,hp,by simpa using hy⟩
 have n:∀y,y=q.1.x\/y=q.1.lf\/y=q.1.rs->y ∈ [q].flatMap fun p=>[p.1.x,p.1.lf,p.1.rs]:=fun y hy=>Dq.mpr ⟨q,aW,by simpa using hy⟩
 exact⟨ap _ (m _ (.inl rfl)) _ (n _ (.inl rfl)),ap _ (m _ (.inr (.inl rfl))) _ (n _ (.inr (.inl rfl))),ap _ (m _ (.inr (.inl rfl))) _ (n _ (.inr (.inr rfl))),ap _ (m _ (.inr (.inr rfl))) _ (n _ (.inr (.inl rfl))),ap _ (m _ (.inr (.inr rfl))) _ (n _ (.inr (.inr rfl)))⟩
theorem chain_snoc {W:aZ}{b:Ask}{g:cj}:∀ {l:List cj},Chain W l g.a->uu W g=some b->Chain W (l ++ [g]) b
 |[],_,h=>h
 |[f],c,h=>⟨c,h⟩
 |f::f'::l,c,h=>⟨c.1,chain_snoc (l:=f'::l) c.2 h⟩
theorem chain_last {W:aZ}{b:Ask}{g:cj}:∀ {l:List cj},Chain W (l ++ [g]) b->Chain W l g.a
 |[],_=>trivial
 |[f],c=>c.1
 |f::f'::l,c=>⟨c.1,chain_last (l:=f'::l) c.2⟩
def KT (S:Wh) (H H':Hp):Prop:= ∀b o,b≠S.fi->b≠S.dh->b≠S.kn->b≠S.kp->b≠S.x->H b=some o->H' b=some o
inductive Bo (C D R M:Addr) (vs:List V) (H:Hp) (Q:VK) (E:XK):Prop
 |mk {S:Wh}{bg m:Int}{kh kq:List (List Key×V)}{ta:Addr}{a:Ask} (_:vs = [.ref S.x,.ref ta]) (_:mX S.W S.NU) (_:cA C D S bg m kh [] kq [] H) (_:kh.length<=1000) (_:H ta=some (.tup [.str a.1,.str a.2])) (_:UA S.W S.NU a) (_:∃r,S.W.Out a r)
  (_:∀n,S.W.Out a (.miss n) -> ∀e H',KT S H H'->H e=none->AI M n H' e->E (.ref M) (some e) H')
  (_:∀z,S.W.Out a (.told z) -> ∀t y u JX jH H',KT S H H'->H' S.x=some (.ins C S.dx (fW S.fi S.ow S.kp S.kn S.kd JX))->H' S.kn=some (.dT jH)->bo jH (d5 a)=some (.ref t)->H' t=some (.tup [y,.int z,u])->Q (.ref t) H'):Bo C D R M vs H Q E
structure TI (C D R:Addr) (S:Wh) (H0:Hp) (a:Ask) (ta st:Addr) (U:Nat) (mm:Nat) (H:Hp) (bw:List (FA×cj)) (bg m:Int) (kh kk kq:List (List Key×V)) (ka:List (Ask×Int)):Prop where
 w:cA C D S bg m kh kk kq ka H
 em:mm=kj U ka.length bw.length
 lh:kh.length+8 * mm<=400000
 fj:H st=some (.lst (refs bw))
 fs:Gu R S H bw
 ua:∀p∈bw,UA S.W S.NU p.2.a
 ok:∀p∈bw,df S.W p.2
 wl:∀p∈bw,p.2.w∈S.W.line
 nk:∀p∈bw,∀z,(p.2.a,z) ∉ ka
 nd:(bw.map (·.2.a)).Nodup
 ap:∀p∈bw,(p.1.lf≠st/\p.1.rs≠st)/\H0 p.1.x=none/\H0 p.1.lf=none/\H0 p.1.rs=none
 ch:(bw = [] /\ ∃z,(a,z)∈ka) \/ ∃l top,bw=l ++ [top]/\Chain S.W (l.map (·.2)) top.2.a/\(bw.head?.map (·.2.a))=some a
 c8:H ta=some (.tup [.str a.1,.str a.2])
 kt:KT S H0 H
theorem TI.aX {S:Wh}{H0:Hp}{a:Ask}{ta st:Addr}{mm:Nat}{bw:List (FA×cj)}{ka:List (Ask×Int)} (wo:mX S.W S.NU) (h:TI C D R S H0 a ta st U mm H bw bg m kh kk kq ka):ka.length+bw.length<=(ia S.W S.NU).length/\kk.length=ka.length:=by
 refine⟨?_,gZ h.w.kv⟩;have nd:(ka.map (·.1)++bw.map (·.2.a)).Nodup:=g9.mpr ⟨h.w.nd,h.nd,fun x hx y hy e=>by
  obtain⟨p,hp,rfl⟩:=br.mp hx;obtain⟨q,hq,rfl⟩:=br.mp hy;exact h.nk q hq p.2 (by rw[<-e];exact hp)⟩
 have:=Fy nd fun x hx=>NH (W:=S.W) (NU:=S.NU) (by
  rcases ee.mp hx with z|z
  ·obtain⟨p,hp,rfl⟩:=br.mp z;exact h.w.sF p hp
  ·obtain⟨p,hp,rfl⟩:=br.mp z;exact h.ua p hp)
 rw[dz,aJ,aJ]at this;exact this
abbrev nTl:List Str:= ["self","first","standing","needed"]
theorem Gw:bF nTl ["self","first"] (aI uq):=bV (by decide +kernel)
theorem acR {fG:Addr}{dG:FuncData} (F:aY K "tell" "Whole.tell" uq f fd) (T:lE K mg C) (GE:aS P w K mg base (d9 P w) 3 fE dE ["self","standing","asking"] (xk C D R M)) (ME:Meth K C "enter" fE) (bE:Binds K dE ["self","standing","asking"] [])
  (GG:aS P w K mg base aO 4 fG dG ["self","reckoning"] (Bh C D R)) (MG:Meth K C "go_on" fG) (bG:Binds K dG ["self","reckoning"] []) (GS:aS P w K mg base aO 1 fS dS ["self","reckoning"] (Bi C D R)) (MS:Meth K C "settle" fS) (bS:Binds K dS ["self","reckoning"] []):aS P w K mg base (d9 P w) 5 f fd ["self","first"] (Bo C D R M):=by
 refine F.Jn Gw (fun vs H Q E h=>?_) (fun aH A outer s H vs Q E hr h=>?_)
 ·obtain⟨rfl,_⟩:=h;rfl
 ·obtain @⟨S,bg,m,kh,kq,ta,a,rfl,wo,h,yD,c8,ua,⟨rr,hrr⟩,qn,q⟩:=h
  have yK:bb 4 _:=hr;have mZ:bb 3 _:=yK.mono (by decide)
  have bZ:bb 1 _:=yK.mono (by decide)
  have bO:=iE hr.units;refine⟨_,aA (ba (i:=2) Gw.nd rfl (Or.inl rfl) (dQ ah))
   (aA (gG (ll (pv 0) T.cl ME GE mZ bE .nil Aw (ae (pv 2) (ae (pv 1) ah))))
   (aA (vK PassesOwn.leaving (qQ (pv 2) (fun _=>rfl))
    (aA (ba (i:=3) Gw.nd rfl (Or.inl rfl) (ll (pv 0) T.cl MG GG yK bG .nil eF (ae (a6 fJ (pv 2) (OT OA ay) (fun _ _=>rfl)) ah)))
    (aG (cf (bK pE (pv 3) iy (bQ _)) (aG (gG (ll (pv 0) T.cl MS GS bZ bS .nil eF (ae (aa0 k9 V1 V2 aa2 (pv 2)) ah))))
     (aG (gG (ll (pv 0) T.cl ME GE mZ bE .nil Aw (ae (pv 2) (ae (pv 3) ah)))))))))
   (aG (bz (jP bO (cF (pv 0) rfl) (pv 1) (fun _ _=>rfl)))))),?_⟩
  refine⟨bf _,fun st fj=>?_⟩;have S1:=ar (o:= .lst []) fj;have w1:=h.same S1;have j3:upd H st (.lst []) st=some (.lst []):=af;have iG:=S1 _ _ c8;generalize upd H st (.lst [])=H1 at S1 w1 j3 iG ⊢;have U2:=Zt wo;have Q3:∀k s,8 * kj (ia S.W S.NU).length k s<=8 * (200 * 202+200):=fun k s=>by
   unfold kj;have:((ia S.W S.NU).length - k) * ((ia S.W S.NU).length+2)<=200 * 202:=Nat.mul_le_mul (by omega) (by omega)
   omega
  refine QT (iF:=fun H6=>∃mm bw bg m kh kk kq ka,TI C D R S H a ta st (ia S.W S.NU).length mm H6 bw bg m kh kk kq ka) (fun last=>⟨_,rfl,S.x,S.dx,_,rfl,w1.hx,rfl,_,rfl,_,rfl,xk.mk (bw:= []) (b:=a) rfl wo w1 (by omega) (bf _) j3 (bf _) ⟨fun p hp=>(by cases hp),jl⟩ (fun p hp=>(by cases hp)) iG ua (fun _ p hp=>(by cases hp)) (fun z hz=>(by cases hz)) (fun _ ho e H' k he mo=>qn _ ho e H' (fun b o n1 n2 _ _ _ z=>k _ _ n1 n2 (S1 _ _ z)) (S1.free he) mo) (fun z jH bA m' H' _ ho k w' lk=>last H' ?_) (fun fa fr lv rn bA m' H' _ ea fo wl k w' lk kO fh n1 n2 n3 n4 n5=>last H' ?_)⟩) ?_
  ·refine⟨_,[],bg,m',bA,jH,kq,[] ++ [(a,z)],⟨w',rfl,by have:=Q3 ([] ++ [(a,z)]).length ([]:List (FA×cj)).length;omega,k _ _ (ao j3 w1.fi.hx (by intro z;cases z)) (ao j3 w1.fi.hh (by intro z;cases z)) (ao j3 w1.hk (by intro z;cases z)) j3,⟨fun p hp=>(by cases hp),jl⟩,fun p hp=>(by cases hp),fun p hp=>(by cases hp),fun p hp=>(by cases hp),fun p hp=>(by cases hp),jl,fun p hp=>(by cases hp),.inl ⟨rfl,z,aW⟩,k _ _ (ao iG w1.fi.hx (by intro z;cases z)) (ao iG w1.fi.hh (by intro z;cases z)) (ao iG w1.hk (by intro z;cases z)) iG,fun b o n1 n2 n3 _ _ e=>k _ _ n1 n2 n3 (S1 _ _ e)⟩⟩
  ·have only:∀p ∈ [] ++ [(fa,fr)],p=(fa,fr):=fun p hp=>dH.mp hp
   have JY:fa.lf≠st/\fa.rs≠st:=⟨aN (aq j3 n2),aN (aq j3 n3)⟩;refine⟨_,[] ++ [(fa,fr)],bg+1,m',bA,[],kq,[],⟨w',rfl,by have:=Q3 ([]:List (Ask×Int)).length ([] ++ [(fa,fr)]).length;omega,kO,⟨fun p hp=>?_,?_⟩,fun p hp=>?_,fun p hp=>?_,fun p hp=>?_,fun p hp z hz=>(by cases hz),by simp,fun p hp=>?_,.inr ⟨[],(fa,fr),rfl,trivial,by rw[<-ea];rfl⟩,k _ _ (ao iG w1.fi.hx (by intro z;cases z)) (ao iG w1.fi.hh (by intro z;cases z)) (ao iG w1.hx (by intro z;cases z)) (ao iG j3 (by intro z;cases z)) iG,fun b o n1 n2 n3 n4 n5 e=>k _ _ n1 n2 n5 (aq e fj) (S1 _ _ e)⟩⟩
   ·rw[only p hp];exact⟨lv,rn,fh⟩
   ·show [fa.x,fa.lf,fa.rs].Nodup
    simp only[g8,bj,jm,jn,not_or,not_false_eq_true,jl,and_true];exact⟨⟨n4,n5⟩,fh.jh⟩
   ·rw[only p hp];show UA S.W S.NU fr.a;rw[ea];exact ua
   ·rw[only p hp];exact fo
   ·rw[only p hp];exact wl
   ·rw[only p hp];exact⟨JY,S1.free n1,S1.free n2,S1.free n3⟩
  rintro H2 ⟨mm0,aer,bg0,m0,kh0,kk0,kq0,ka0,TZ⟩;refine⟨fun mm σ H3=>∃ (v3:Option V) (bw:List (FA×cj)) (bg m:Int) (kh kk kq:List (List Key×V)) (ka:List (Ask×Int)),σ = [some (.ref S.x),some (.ref ta),some (.ref st),v3]/\TI C D R S H a ta st (ia S.W S.NU).length mm H3 bw bg m kh kk kq ka,⟨mm0,none,aer,bg0,m0,kh0,kk0,kq0,ka0,rfl,TZ⟩,?_⟩;clear TZ;rintro mm σ H3 ⟨v3,bw,bg,m,kh,kk,kq,ka,rfl,ti⟩;obtain⟨tf,tk⟩:=ti.aX wo;refine⟨_,rfl,_,.inl ⟨_,ak.of ti.fj,rfl⟩,?_⟩;rcases ti.ch with⟨rfl,z,hz⟩|⟨l,top,rfl,CJ,hd⟩
  ·refine c7 (fun y=>by cases y) (fun _=>?_)
   have qx:H3 ta=some (.tup ((d5 a).map kV)):=ti.c8;rcases ti.w.kv.val a with⟨_,e2⟩|⟨v,z',t,y,ns,nv,e1,e2,rfl,e4,_⟩
   ·exact absurd hz (e2 z)
   ·refine⟨_,rfl,S.x,C,S.dx,_,.ref S.kn,rfl,ti.w.hx,T.cl,T.nn,nN,_,rfl,S.kn,.ref t,rfl,by rw[<-e1];exact cU.t (k:=d5 a) ti.w.hk qx,?_⟩
    exact q z' (ti.w.ok _ e2) t _ _ bg kk H3 ti.kt ti.w.hx ti.w.hk e1 e4
  ·refine c7 (fun _=>?_) (fun y=>absurd (by unfold refs;rw[bB];simp) y)
   have tm:top∈l ++ [top]:=fH _ aW;have lm:∀p∈l,p∈l ++ [top]:=fun p hp=>nu _ hp;obtain⟨lv,rn,fh⟩:=ti.fs.fr top tm;have U1:ka.length+(l.length+1)<=(ia S.W S.NU).length:=by rw[dz]at tf;exact tf
   have em:=ti.em;rw[dz,sR]at em;have lh:=ti.lh;refine⟨fun aK H'=>∃T1,T1 < mm /\ ∃ (v3:Option V) (bw:List (FA×cj)) (bg m:Int) (kh kk kq:List (List Key×V)) (ka:List (Ask×Int)),aK = [some (.ref S.x),some (.ref ta),some (.ref st),v3]/\TI C D R S H a ta st (ia S.W S.NU).length T1 H' bw bg m kh kk kq ka,fun _ _ z=>z,?_⟩;have Q4:∀g:cj,refs (l ++ [(top.1,g)])=refs l ++ [V.ref top.1.x]:=fun g=>by unfold refs;rw[bB];rfl
   have xn:H3 st=some (.lst (refs l ++ [V.ref top.1.x])):=by rw[<-Q4 top.2];exact ti.fj
   obtain⟨⟨ja,at2⟩,RU,at4,at5⟩:=ti.ap top tm;have stx:st≠top.1.x:=ao xn fh.hx (by intro z;cases z)
   have T2:∀ {H4:Hp},Kr S top.1 H3 H4->H4 st=some (.lst (refs l ++ [V.ref top.1.x]))/\H4 ta=some (.tup [.str a.1,.str a.2])/\KT S H H4 /\ ∀p∈l,∃lv rn,fq R S H4 p.1 p.2 lv rn:=fun {H4} kr=>by
    refine⟨kr _ _ (ao xn ti.w.fi.hx (by intro z;cases z)) (ao xn ti.w.fi.hh (by intro z;cases z)) stx (aN ja) (aN at2) xn,kr _ _ (ao ti.c8 ti.w.fi.hx (by intro z;cases z)) (ao ti.c8 ti.w.fi.hh (by intro z;cases z)) (ao ti.c8 fh.hx (by intro z;cases z)) (ao ti.c8 fh.hl (by intro z;cases z)) (ao ti.c8 fh.hr (by intro z;cases z)) ti.c8,fun b o n1 n2 n3 n4 n5 e=>kr _ _ n1 n2 (aq e RU) (aq e at4) (aq e at5) (ti.kt b o n1 n2 n3 n4 n5 e),fun p hp=>?_⟩
    obtain⟨jF,jG,fp⟩:=ti.fs.fr p (lm p hp);exact⟨jF,jG,fp.go ti.w ⟨_,_,_,fh.hx⟩ ⟨_,fh.hl⟩ ⟨_,fh.hr⟩ (Yu ti.fs.nd hp) kr⟩
   refine⟨_,rfl,S.x,S.dx,_,rfl,ti.w.hx,rfl,_,rfl,1,rfl,st,_,-1,_,rfl,rfl,ak.of xn,YJ _ _,Bh.mk (A:=top.1) (fr:=top.2) rfl wo ti.w (by omega) fh (ti.ok top tm) (ti.wl top tm) (fun t' jF jG bA m' H4 kr w4 l4 CK JZ=>?_) (fun t' d ds jF jG bA m' b tn H4 kr w4 l4 CK JZ hn m4 mY=>?_)⟩
   ·obtain⟨lG,jx,gy,J0⟩:=T2 kr
    refine⟨_,rfl,rfl,_,rfl,_,rfl,S.x,S.dx,_,rfl,w4.hx,rfl,_,rfl,.inl ⟨rfl,_,ak.of lG⟩,st,_,V.ref top.1.x,rfl,rfl,lG,by simp,?_⟩
    have ed:(refs l ++ [V.ref top.1.x]).dropLast=refs l:=by simp
    rw[ed];have up:∀ {u:HO} b o,b≠st->H4 b=some o->upd H4 st u b=some o:=fun b o n e=>by rw[ag n];exact e
    have ut:∀ {u:HO} b xs,H4 b=some (.tup xs)->upd H4 st u b=some (.tup xs):=fun b xs e=>up _ _ (ao e lG (by intro z;cases z)) e
    have w5:cA C D S bg m' bA kk kq ka (upd H4 st (.lst (refs l))):=w4.write fun b o nl _ e=>up _ _ (fun z=>by rw[z,lG]at e;cases e;exact nl _ rfl) e
    have lL:∀ {A:FA}{g:cj}{lv:List V}{rn:List Str},A.lf≠st->A.rs≠st->fq R S H4 A g lv rn->fq R S (upd H4 st (.lst (refs l))) A g lv rn:=fun n1 n2 q=>q.fr w4 lG ⟨n1,n2⟩ fun b o _ _ _ _ _ n e=>up _ _ n e;have xo:upd H4 st (.lst (refs l)) st=some (.lst (refs l)):=af;have rP:upd H4 st (.lst (refs l)) ta=some (.tup [.str a.1,.str a.2]):=ut _ _ jx;have T3:KT S H (upd H4 st (.lst (refs l))):=fun b o n1 n2 n3 n4 n5 e=>up _ _ (aq e fj) (gy b o n1 n2 n3 n4 n5 e);have T4:∀p∈l,∃lv rn,fq R S (upd H4 st (.lst (refs l))) p.1 p.2 lv rn:=fun p hp=>by
     obtain⟨lv,rn,q⟩:=J0 p hp;exact⟨lv,rn,lL (ti.ap p (lm p hp)).1.1 (ti.ap p (lm p hp)).1.2 q⟩
    have yL:=lL ja at2 CK;generalize upd H4 st (.lst (refs l))=H5 at w5 lL xo rP T3 T4 yL ⊢;refine Bi.mk (A:=top.1) (fr:=⟨top.2.a,top.2.w,[],t'⟩) rfl wo w5 (by omega) yL (JZ.done rfl) (ti.nk top tm) (ti.ua top tm) fun jH sH H6 k6 w6=>?_
    have nd2:∀p∈l,p.2.a≠top.2.a:=fun p hp e=>by
     have:=ti.nd;rw[bB]at this;exact(g9.mp this).2.2 _ (br.mpr ⟨p,hp,rfl⟩) _ (br.mpr ⟨top,aW,rfl⟩) e
    refine⟨kj (ia S.W S.NU).length (ka.length+1) l.length,by rw[em];exact DY (by omega),_,l,bg,m',bA,jH,sH,ka ++ [(top.2.a,t')],rfl,⟨w6,by rw[dz];rfl,?_,k6 _ _ (ao xo w5.hk (by intro z;cases z)) (ao xo w5.hq (by intro z;cases z)) xo,⟨fun p hp=>?_,?_⟩,fun p hp=>ti.ua p (lm p hp),fun p hp=>ti.ok p (lm p hp),fun p hp=>ti.wl p (lm p hp),fun p hp z hz=>?_,?_,fun p hp=>ti.ap p (lm p hp),?_,k6 _ _ (ao rP w5.hk (by intro z;cases z)) (ao rP w5.hq (by intro z;cases z)) rP,fun b o n1 n2 n3 n4 n5 e=>k6 _ _ n3 n4 (T3 b o n1 n2 n3 n4 n5 e)⟩⟩
    ·have:kj (ia S.W S.NU).length (ka.length+1) l.length < mm:=by rw[em];exact DY (by omega)
     omega
    ·obtain⟨lv,rn,q⟩:=T4 p hp
     exact⟨lv,rn,q.fr w5 xo (ti.ap p (lm p hp)).1 fun b o _ _ n3 n4 _ _ e=>k6 _ _ n3 n4 e⟩
    ·have:=ti.fs.nd
     rw[Dr]at this;exact(g9.mp this).1
    ·rcases ee.mp hz with y|y
     ·exact ti.nk p (lm p hp) z y
     ·have y:=dH.mp y
      exact nd2 p hp (by injection y)
    ·have:=ti.nd
     rw[bB]at this;exact(g9.mp this).1
    ·cases T':l.getLast? with
     |none =>
      have:l = []:=List.getLast?_eq_none_iff.mp T';subst this;refine .inl ⟨rfl,t',fH _ ?_⟩;have hd:some top.2.a=some a:=hd;rw[gA hd];exact aW
     |some g =>
      obtain⟨l',rfl⟩:=List.getLast?_eq_some_iff.mp T';refine .inr ⟨l',g,rfl,?_,?_⟩
      ·rw[bB]at CJ;exact chain_last CJ
      ·rw[<-hd];cases l' with
       |nil=>rfl
       |cons _ _=>rfl
   ·obtain⟨lG,jx,gy,J0⟩:=T2 kr
    have hdn:uu S.W ⟨top.2.a,top.2.w,d::ds,t'⟩=some b:=hn;have ub:UA S.W S.NU b:=by
     unfold aZ.need at hn
     by_cases c1:b7 d = "ask"
     ·rw[ax c1]at hn;cases hn;exact⟨CK.an d aW c1,.inl rfl⟩
     ·rw[aj c1]at hn
      by_cases c2:b7 d = "onward"
      ·rw[ax c2]at hn
       split at hn
       ·cases hn;exact⟨(ti.ua top tm).1,.inr (ti.wl top tm)⟩
       ·cases hn
      ·rw[aj c2]at hn;cases hn
    obtain⟨cV,sJ⟩:∃cV,l ++ [(top.1,(⟨top.2.a,top.2.w,d::ds,t'⟩:cj))]=cV:=⟨_,rfl⟩;have Gx:∀p∈cV,p∈l\/p=(top.1,⟨top.2.a,top.2.w,d::ds,t'⟩):=fun p hp=>by
     rw[<-sJ]at hp;rcases ee.mp hp with z|z
     ·exact .inl z
     ·exact .inr (dH.mp z)
    have uK:cV.map (·.2.a)=(l ++ [top]).map (·.2.a):=by rw[<-sJ,bB,bB];rfl
    have Q5:cV.length=l.length+1:=by rw[<-sJ,dz];rfl
    have CL:∀p∈cV,∃q∈l ++ [top],q.1=p.1/\q.2.a=p.2.a/\q.2.w=p.2.w:=fun p hp=>by
     rcases Gx p hp with z|z
     ·exact⟨p,lm p z,rfl,rfl,rfl⟩
     ·rw[z];exact⟨top,tm,rfl,rfl,rfl⟩
    have yM:∀g∈cV.map (·.2),df S.W g:=fun g hg=>by
     obtain⟨p,hp,rfl⟩:=br.mp hg;rcases Gx p hp with z|z
     ·exact ti.ok p (lm p z)
     ·rw[z];exact JZ
    have yN:Chain S.W (cV.map (·.2)) b:=by rw[<-sJ,bB];exact chain_snoc (g:=⟨top.2.a,top.2.w,d::ds,t'⟩) CJ hdn
    have kI:((cV.map (·.2)).head?.map (·.a)).getD b=a:=by
     have e1:(cV.map (·.2)).head?.map (·.a)=(cV.map (·.2.a)).head?:=by rw[Ds,Ds,VY];rfl
     rw[e1,uK,Ds,hd];rfl
    have fQ:∀p∈cV,p.2.a≠b:=fun p hp e=>by
     obtain⟨l1,l2,el⟩:=List.append_of_mem hp;have c2:Chain S.W (p.2::l2.map (·.2)) b:=by
      rw[el,bB]at yN;exact Me (gs:=p.2::l2.map (·.2)) yN
     have no:=Zp (f:=p.2) (fun g hg=>yM g (by rw[el,bB];exact fH _ hg)) c2 rfl e
     obtain⟨k,hk⟩:=hrr;rw[XC yM yN kI no k]at hk;cases hk
    have j4:Gu R S H4 cV:=by
     refine⟨fun p hp=>?_,?_⟩
     ·rcases Gx p hp with z|z
      ·exact J0 p z
      ·rw[z];exact⟨jF,jG,CK⟩
     ·have:=ti.fs.nd
      rw[<-sJ,Dr];rw[Dr]at this;exact this
    have CM:∀p∈cV,(p.1.lf≠st/\p.1.rs≠st)/\H p.1.x=none/\H p.1.lf=none/\H p.1.rs=none:=fun p hp=>by
     obtain⟨q,hq,e,_⟩:=CL p hp;rw[<-e];exact ti.ap q hq
    have CN:∀p∈cV,UA S.W S.NU p.2.a:=fun p hp=>by
     obtain⟨q,hq,_,e,_⟩:=CL p hp;rw[<-e];exact ti.ua q hq
    have Ua:∀p∈cV,p.2.w∈S.W.line:=fun p hp=>by
     obtain⟨q,hq,_,_,e⟩:=CL p hp;rw[<-e];exact ti.wl q hq
    have J1:∀p∈cV,∀z,(p.2.a,z) ∉ ka:=fun p hp=>by
     obtain⟨q,hq,_,e,_⟩:=CL p hp;rw[<-e];exact ti.nk q hq
    have J2:(cV.map (·.2.a)).Nodup:=by rw[uK];exact ti.nd
    have mx:H4 st=some (.lst (refs cV)):=by rw[<-sJ,Q4];exact lG
    have Ub:cV.head?.map (·.2.a)=some a:=by rw[<-Ds,uK,Ds];exact hd
    have aes:∃l top,cV=l ++ [top]/\Chain S.W (l.map (·.2)) top.2.a/\(cV.head?.map (·.2.a))=some a:=⟨l,_,sJ.symm,CJ,Ub⟩;have qy:∀e,H4 e=none->H e=none:=fun e he=>by
     cases e0:H e with
     |none=>rfl
     |some u =>
      exfalso
      by_cases z1:e=S.fi
      ·rw[z1,w4.fi.hx]at he;cases he
      ·by_cases z2:e=S.dh
       ·rw[z2,w4.fi.hh]at he;cases he
       ·by_cases z3:e=S.kn
        ·rw[z3,w4.hk]at he;cases he
        ·by_cases z4:e=S.kp
         ·rw[z4,w4.hq]at he;cases he
         ·by_cases z5:e=S.x
          ·rw[z5,w4.hx]at he;cases he
          ·rw[gy e u z1 z2 z3 z4 z5 e0]at he;cases he
    have big:ka.length+(l.length+1)+1<=(ia S.W S.NU).length:=by
     have nd:(b::(ka.map (·.1)++cV.map (·.2.a))).Nodup:=by
      refine g8.mpr ⟨fun hb=>?_,g9.mpr ⟨ti.w.nd,J2,fun x hx y hy e=>?_⟩⟩
      ·rcases ee.mp hb with z|z
       ·obtain⟨p,hp,e⟩:=br.mp z;exact m4 p.2 (by rw[<-e];exact hp)
       ·obtain⟨p,hp,e⟩:=br.mp z;exact fQ p hp e
      ·obtain⟨p,hp,rfl⟩:=br.mp hx
       obtain⟨q,hq,rfl⟩:=br.mp hy;exact J1 q hq p.2 (by rw[<-e];exact hp)
     have:=Fy nd fun x hx=>NH (W:=S.W) (NU:=S.NU) (by
      rcases bj.mp hx with z|z
      ·rw[z];exact ub
      ·rcases ee.mp z with z|z
       ·obtain⟨p,hp,rfl⟩:=br.mp z;exact ti.w.sF p hp
       ·obtain⟨p,hp,rfl⟩:=br.mp z;exact CN p hp)
     rw[d7,dz,aJ,aJ,Q5]at this;omega
    refine⟨_,rfl,rfl,_,rfl,_,rfl,S.x,S.dx,_,rfl,w4.hx,rfl,_,rfl,_,rfl,xk.mk (bw:=cV) (b:=b) rfl wo w4 (by omega) (by omega) mx (by omega) j4 CN mY ub (fun _=>fQ) (fun z hz=>absurd hz (m4 z)) (fun _ ho e H' k he mo=>qn _ (Md yM yN kI ho) e H' (fun b o n1 n2 n3 n4 n5 z=>k _ _ n1 n2 (gy b o n1 n2 n3 n4 n5 z)) (qy e he) mo) (fun z jH J3 m5 H5 _ ho k w5 l5=>?_) (fun fa fr lv5 rn5 J3 m5 H5 _ CO fo5 wl5 k w5 l5 hs5 yL n1 n2 n3 n4 n5=>?_)⟩
    ·have lt:kj (ia S.W S.NU).length (ka.length+1) cV.length < mm:=by rw[em];exact DY (by omega)
     refine⟨_,lt,_,cV,bg,m5,J3,jH,kq,ka ++ [(b,z)],rfl,⟨w5,by rw[dz];rfl,by omega,k _ _ (ao mx w4.fi.hx (by intro z;cases z)) (ao mx w4.fi.hh (by intro z;cases z)) (ao mx w4.hk (by intro z;cases z)) mx,⟨fun p hp=>?_,j4.nd⟩,CN,fun p hp=>yM _ (br.mpr ⟨p,hp,rfl⟩),Ua,fun p hp z' hz=>?_,J2,CM,.inr aes,k _ _ (ao jx w4.fi.hx (by intro z;cases z)) (ao jx w4.fi.hh (by intro z;cases z)) (ao jx w4.hk (by intro z;cases z)) jx,fun b o n1 n2 n3 n4 n5 e=>k _ _ n1 n2 n3 (gy b o n1 n2 n3 n4 n5 e)⟩⟩
     ·obtain⟨lv,rn,q⟩:=j4.fr p hp
      exact⟨lv,rn,q.fr w4 mx (CM p hp).1 fun b o n1 n2 n3 _ _ _ e=>k _ _ n1 n2 n3 e⟩
     ·rcases ee.mp hz with y|y
      ·exact J1 p hp z' y
      ·have y:=dH.mp y
       exact fQ p hp (by injection y)
    ·have lt:kj (ia S.W S.NU).length ka.length (cV.length+1) < mm:=by rw[em,Q5];exact Zu (by omega)
     have JY:fa.lf≠st/\fa.rs≠st:=⟨aN (aq mx n2),aN (aq mx n3)⟩;have uC:∀p∈cV ++ [(fa,fr)],p∈cV\/p=(fa,fr):=fun p hp=>by
      rcases ee.mp hp with z|z
      ·exact .inl z
      ·exact .inr (dH.mp z)
     refine⟨_,lt,_,cV ++ [(fa,fr)],bg+1,m5,J3,kk,kq,ka,rfl,⟨w5,by rw[dz];rfl,by omega,hs5,⟨fun p hp=>?_,?_⟩,fun p hp=>?_,fun p hp=>?_,fun p hp=>?_,fun p hp=>?_,?_,fun p hp=>?_,.inr ⟨cV,(fa,fr),rfl,by show Chain S.W _ fr.a;rw[CO];exact yN,?_⟩,k _ _ (ao jx w4.fi.hx (by intro z;cases z)) (ao jx w4.fi.hh (by intro z;cases z)) (ao jx w4.hx (by intro z;cases z)) (ao jx mx (by intro z;cases z)) jx,fun b o n1 n2 n3 n4 n5 e=>k _ _ n1 n2 n5 (aq e fj) (gy b o n1 n2 n3 n4 n5 e)⟩⟩
     ·rcases uC p hp with z|z
      ·obtain⟨lv,rn,q⟩:=j4.fr p z
       exact⟨lv,rn,q.fr w4 mx (CM p z).1 fun b o n1 n2 _ _ n5 n6 e=>k _ _ n1 n2 n5 n6 e⟩
      ·rw[z];exact⟨lv5,rn5,yL⟩
     ·rw[Dr]
      refine g9.mpr ⟨j4.nd,?_,fun x hx y hy e=>?_⟩
      ·show [fa.x,fa.lf,fa.rs].Nodup
       simp only[g8,bj,jm,jn,not_or,not_false_eq_true,jl,and_true];exact⟨⟨n4,n5⟩,yL.jh⟩
      ·obtain⟨p,hp,hx⟩:=Dq.mp hx
       obtain⟨lv,rn,q⟩:=j4.fr p hp;have sx:∃o,H4 x=some o:=by
        simp only[bj,jm,jn]at hx;rcases hx with z|z|z
        ·rw[z];exact⟨_,q.hx⟩
        ·rw[z];exact⟨_,q.hl⟩
        ·rw[z];exact⟨_,q.hr⟩
       obtain⟨o,so⟩:=sx;obtain⟨p',ij,hy⟩:=Dq.mp hy;rw[dH.mp ij]at hy;simp only[bj,jm,jn]at hy;rw[e]at so;rcases hy with z|z|z
       ·rw[z,n1]at so;cases so
       ·rw[z,n2]at so;cases so
       ·rw[z,n3]at so;cases so
     ·rcases uC p hp with z|z
      ·exact CN p z
      ·rw[z];show UA S.W S.NU fr.a;rw[CO];exact ub
     ·rcases uC p hp with z|z
      ·exact yM _ (br.mpr ⟨p,z,rfl⟩)
      ·rw[z];exact fo5
     ·rcases uC p hp with z|z
      ·exact Ua p z
      ·rw[z];exact wl5
     ·rcases uC p hp with z|z
      ·exact J1 p z
      ·rw[z];show ∀z,(fr.a,z) ∉ ka;rw[CO];exact m4
     ·rw[bB]
      refine g9.mpr ⟨J2,by simp,fun x hx y hy e=>?_⟩
      obtain⟨p,hp,rfl⟩:=br.mp hx;have hy:y=fr.a:=dH.mp hy;exact fQ p hp (by rw[e,hy,CO])
     ·rcases uC p hp with z|z
      ·exact CM p z
      ·rw[z];exact⟨JY,qy _ n1,qy _ n2,qy _ n3⟩
     ·rw[List.head?_append]
      have:cV.head?.map (·.2.a)=some a:=Ub;cases hh:cV.head? with
      |none=>rw[hh]at this;cases this
      |some g=>rw[hh]at this;exact this
end gu
namespace gu
open PySem L2 PySem.W HT PyProof.Rows
theorem oh.pairs {own:Own} (h:oh H vs own):OG H vs (own.map fun q=>(q.1,V.int q.2)):=by
 induction h with
 |nil=>exact .nil
 |cons h _ ih=>exact .cons h ih
inductive Bp (C D:Addr) (vs:List V) (H:Hp) (Q:VK) (E:XK):Prop
 |mk {wd t tb tt:Addr}{wt:List V}{aU:List Th}{th:Th}{o:Obj}{ws wb:List V}{aQ:List (Str×List Str)}{L:Str->List Str}{bk:Bk}{NU:List Str} (_:vs = [.ref wd,.str th.1]) (_:oN H wd t tb tt wt aU) (_:FB H t tb o ws wb aQ L bk) (_:th∈aU) (_:th.2.1∈aQ.map (·.1)) (_:(th.2.2.map (·.1)).Nodup)
  (_:∀ (S:Wh) H',S.W=⟨L th.2.1,bk,th.2.2⟩->S.NU=NU->aB H H'->cA C D S 0 0 [] [] [] [] H'->H S.x=none->H S.fi=none->H S.dh=none->H S.kn=none->H S.kp=none->Q (.ref S.x) H'):Bp C D vs H Q E
abbrev nWo:List Str:= ["world","thing","kind","own"]
theorem Gy:bF nWo ["world","thing"] (aI Ed):=bV (by decide +kernel)
theorem acS {fK fF:Addr}{dK dF:FuncData} (F:aY K "whole_of" "whole_of" Ed f fd) (B2:pO mg) (T:lE K mg C) (GK:dq P w K mg base aO 4 fK dK ["world","thing"] Ba "kind_and_own") (GF:dq P w K mg base aO 6 fF dF ["family","book"] (A7 D) "finds_in")
  (M:Mk K C fI) (GI:aS P w K mg base aO 1 fI dI xj (AH C)) (bI:Binds K dI xj []):aS P w K mg base aO 7 f fd ["world","thing"] (Bp C D):=by
 refine F.ok Gy (fun vs H Q E h=>?_) (fun aH A outer s H vs Q E hr h=>?_)
 ·obtain⟨rfl,_⟩:=h;rfl
 ·obtain @⟨wd,t,tb,tt,wt,aU,th,o,ws,wb,aQ,L,bk,NU,rfl,h,fb,hm,hkd,nd,q⟩:=h
  have J4:bb 6 _:=hr;have yK:bb 4 _:=J4.mono (by decide)
  have d6:bb 2 _:=J4.mono (by decide)
  refine⟨_,aA (qY (cQ GK yK (ae (pv 0) (ae (pv 1) ah))) (pD rfl (eY (bp (i:=2) Gy.nd rfl (Or.inl rfl)) (eY (bp (i:=3) Gy.nd rfl (Or.inl rfl)) lj))))
   (aG (bz (Es M GI d6 rfl T.yw bI .nil eF (ae (cQ GF J4 (ae (a6 cx (pv 0) ay (fun _ _=>rfl)) (ae (a6 cx (pv 0) ay (fun _ _=>rfl)) ah))) (ae (pv 2) (ae (gF (Xv rfl) rfl B2.dict boot_dict (ae (pv 3) ah)) (ae D8 ah))))))),?_⟩
  refine⟨_,rfl,_,rfl,Ba.mk rfl h hm fun r b us H1 S1 bZ ik ow1=>?_⟩;refine⟨r,_,rfl,aE.of bZ,rfl,_,_,rfl,_,_,rfl,rfl,?_⟩;have h1:=h.same S1;refine⟨_,rfl,wd,_,0,_,rfl,rfl,aE.of h1.hw,gn,_,rfl,wd,_,1,_,rfl,rfl,aE.of h1.hw,iY,A7.mk rfl (fb.same S1) fun fi fx dl de dh kl ke H2 S2 jI ln2 nfi ndh=>?_⟩;have ow2:oh H2 us th.2.2:=ow1.keep fun b xs e=>S2 _ _ e;refine⟨_,rfl,_,rfl,b,us,_,rfl,S2 _ _ ik,ow2.pairs,by rw[vw];exact nd,fun ow how=>?_⟩
  intro kp vc;intro x dx hx qu ne;have S3:=ar (o:= .dK (lF th.2.2)) how;have pZ:upd H2 ow (.dK (lF th.2.2)) ow=some (.dK (lF th.2.2)):=af;have eo:HO.dK (t7 (th.2.2.map fun q=>(q.1,V.int q.2))) = .dK (lF th.2.2):=rfl;rw[eo]at vc hx qu ⊢;generalize upd H2 ow (.dK (lF th.2.2))=H3 at S3 pZ vc hx qu ⊢;have S4:=ar (o:= .dT []) vc;have CP:upd H3 kp (.dT []) kp=some (.dT []):=af;generalize upd H3 kp (.dT [])=H4 at S4 CP hx qu ⊢;have Sa:=ar (o:= .own x) qu;have di:upd H4 dx (.own x) x=none:=by rw[ag (aN ne)];exact hx
  have S5:=Sa.trans (ar (o:= .ins C dx []) di);have J6:upd (upd H4 dx (.own x)) x (.ins C dx []) x=some (.ins C dx []):=af;generalize upd (upd H4 dx (.own x)) x (.ins C dx [])=H5 at S5 J6 ⊢;refine AH.mk rfl J6 (S5 _ _ CP) fun kn sE=>⟨rfl,?_⟩;have S6:=ar (o:= .dT []) sE;have nxk:x≠kn:=aq J6 sE;have Uc:upd H5 kn (.dT []) kn=some (.dT []):=af;generalize upd H5 kn (.dT [])=H6 at S6 Uc ⊢;have lU:=S3.trans S4;have yf:=S5.trans S6;have jg:=S1.trans S2;have k7:∀b u,H4 b=some u->upd H6 x (.ins C dx (fW fi ow kp kn th.2.1 0)) b=some u:=fun b u e=>by rw[ag (aq e hx)];exact yf _ _ e
  have k2:∀b u,H2 b=some u->upd H6 x (.ins C dx (fW fi ow kp kn th.2.1 0)) b=some u:=fun b u e=>k7 _ _ (lU _ _ e);have vd:H4 kn=none:=S5.free sE;obtain⟨p,hp,ep⟩:=br.mp hkd;have ln3:kc H2 kl L th.2.1:=ep ▸ ln2 p hp;refine q ⟨x,dx,fi,fx,dl,de,dh,ow,kp,kn,th.2.1,kl,ke,⟨L th.2.1,bk,th.2.2⟩,L,NU⟩ _ rfl rfl (fun b u e=>k2 _ _ (jg _ _ e)) ⟨aN (aq (lU _ _ jI.hx) hx),af,⟨k2 _ _ jI.hx,k2 _ _ jI.hl,k2 _ _ jI.he,k2 _ _ jI.hh,jI.du.same k2,jI.ok,jI.nn⟩,k7 _ _ (S4 _ _ pZ),by rw[ag (aN nxk)];exact Uc,k7 _ _ CP,⟨aN (aq (lU _ _ jI.he) vd),aN (aq (lU _ _ jI.hh) vd),aN (aq (S3 _ _ jI.he) vc),aN (aq (S3 _ _ jI.hh) vc),aN (aq CP vd)⟩,ln3.same k2,rfl,fun k n b v e=>(by cases e),.nil,fun p hp=>(by cases hp),jl,fun p hp=>(by cases hp),aP _⟩ ((jg.trans lU).free hx) (S1.free nfi) (S1.free ndh) ((jg.trans lU).free vd) ((jg.trans S3).free vc)
structure rQ (wd t tb tt:Addr) (wt:List V) (aU:List Th) (th:Th) (o:Obj) (ws wb:List V) (aQ:List (Str×List Str)) (L:Str->List Str) (bk:Bk) (NU:List Str) (a:Ask) (H:Hp):Prop where
 h:oN H wd t tb tt wt aU
 fb:FB H t tb o ws wb aQ L bk
 hm:th∈aU
 hk:th.2.1∈aQ.map (·.1)
 nd:(th.2.2.map (·.1)).Nodup
 wo:mX ⟨L th.2.1,bk,th.2.2⟩ NU
 ua:UA ⟨L th.2.1,bk,th.2.2⟩ NU a
 ho:∃r,aZ.Out ⟨L th.2.1,bk,th.2.2⟩ a r
theorem rQ.same {wd t tb:Addr}{aU:List Th}{th:Th}{bk:Bk}{a:Ask} (h:rQ wd t tb tt wt aU th o ws wb aQ L bk NU a H) (S:aB H H'):rQ wd t tb tt wt aU th o ws wb aQ L bk NU a H':=⟨h.h.same S,h.fb.same S,h.hm,h.hk,h.nd,h.wo,h.ua,h.ho⟩
inductive Bq (C D M:Addr) (vs:List V) (H:Hp) (Q:VK) (E:XK):Prop
 |mk {wd t tb tt:Addr}{wt:List V}{aU:List Th}{th:Th}{o:Obj}{ws wb:List V}{aQ:List (Str×List Str)}{L:Str->List Str}{bk:Bk}{NU:List Str}{a:Ask} (_:vs = [.ref wd,.str th.1,.str a.1,.str a.2]) (_:rQ wd t tb tt wt aU th o ws wb aQ L bk NU a H)
  (_:∀n,aZ.Out ⟨L th.2.1,bk,th.2.2⟩ a (.miss n) -> ∀e H',aB H H'->AI M n H' e->E (.ref M) (some e) H')
  (_:∀z,aZ.Out ⟨L th.2.1,bk,th.2.2⟩ a (.told z) -> ∀x dx fi ow kp kn kd bg t y u kk H',aB H H'->H' x=some (.ins C dx (fW fi ow kp kn kd bg))->H' kn=some (.dT kk)->bo kk (d5 a)=some (.ref t)->H' t=some (.tup [y,.int z,u])->Q (.ref x) H'):Bq C D M vs H Q E
abbrev qz:List Str:= ["world","thing","name","behind"]
abbrev nWa:List Str:= ["world","thing","name","behind","whole"]
theorem Q6:bF nWa qz (aI DE):=bV (by decide +kernel)
theorem acT:bF ["thing"] ["thing"] (aI ED):=bV (by decide +kernel)
theorem abz (F:aY K "check_name" "check_name" ED f fd) (GN:dq P w K mg base aO 1 fN dN ["thing"] ud "is_name"):aS P w K mg base aO 2 f fd ["thing"] AE:=by
 refine F.ok acT (fun vs H Q E h=>?_) (fun aH A outer s H vs Q E hr h=>?_)
 ·obtain⟨rfl,_⟩:=h;rfl
 ·obtain @⟨x,rfl,n,q⟩:=h
  exact⟨_,aG (cf (pB (pA (cQ GN hr (ae (pv 0) ah)))) zx cO),_,rfl,ud.mk rfl n fun H1 S1=>⟨true,rfl,q H1 S1⟩⟩
theorem cA.wi {S:Wh}{ka:List (Ask×Int)} (h:cA C D S bg m kh kk kq ka H):WI C D S.x S.dx S.fi S.fx S.dl S.de S.dh S.ow S.kp S.kn S.kd bg S.kl (lF S.W.own) S.ke kh kk m S.W.bk H:=⟨h.n3,h.hx,h.fi,h.ho,h.hk,h.n1.1,h.n1.2.1⟩
theorem acU {fO fB fR fT:Addr}{dO dB dT:FuncData} (F:aY K "whole_asked" "whole_asked" DE f fd) (T:lE K mg C) (GO:dq P w K mg base aO 7 fO dO ["world","thing"] (Bp C D) "whole_of") (GN:dq P w K mg base aO 2 fN dN ["thing"] AE "check_name") (GB:dq P w K mg base aO 2 fB dB ["line","thing"] A5 "check_behind")
  (GR:aS P w K mg base aO 1 fR dR ["self"] (Ak C D)) (MR:Meth K C "forebears" fR) (bR:Binds K dR ["self"] []) (GT:aS P w K mg base (d9 P w) 5 fT dT ["self","first"] (Bo C D R M)) (MT:Meth K C "tell" fT) (bT:Binds K dT ["self","first"] []):aS P w K mg base (d9 P w) 8 f fd qz (Bq C D M):=by
 refine F.Jn Q6 (fun vs H Q E h=>?_) (fun aH A outer s H vs Q E hr h=>?_)
 ·obtain⟨rfl,_⟩:=h;rfl
 ·obtain @⟨wd,t,tb,tt,wt,aU,th,o,ws,wb,aQ,L,bk,NU,a,rfl,h,qn,q⟩:=h
  have vb:bb 7 _:=hr;have yz:bb 5 _:=vb.mono (by decide)
  have d6:bb 2 _:=vb.mono (by decide)
  have bZ:bb 1 _:=vb.mono (by decide)
  refine⟨_,aA (ba (i:=4) Q6.nd rfl (Or.inl rfl) (cQ GO vb (ae (pv 0) (ae (pv 1) ah))))
   (aA (gG (cQ GN d6 (ae (pv 2) ah)))
   (aA (gG (cQ GB d6 (ae (YF (pv 4) T.cl MR GR bZ bR .nil eF) (ae (pv 3) ah))))
   (aA (gG (ll (pv 4) T.cl MT GT yz bT .nil Aw (ae (bJ (ae (pv 2) (ae (pv 3) ah))) ah)))
   (aG (bz (pv 4)))))),?_⟩
  refine⟨_,rfl,_,rfl,Bp.mk (NU:=NU) rfl h.h h.fb h.hm h.hk h.nd fun S H1 eW eN S1 w1 fx1 ffi fdh vd fkp=>?_⟩;refine⟨_,rfl,AE.mk rfl (h.wo.nm _ h.ua.1) fun H2 S2=>?_⟩;have w2:=w1.same S2;obtain⟨la,ea,ha⟩:=w2.ln;have el:S.L S.kd=L th.2.1:=by rw[w1.el,eW]
  rw[el]at ha;refine⟨_,rfl,S.x,S.dx,_,rfl,w2.hx,aaF,Ak.mk rfl w2.wi ea ⟨_,rfl,A5.mk rfl ha (h.fb.aX h.hk) h.ua.2 fun H3 S3=>?_⟩⟩;refine⟨_,rfl,S.x,S.dx,_,rfl,S3 _ _ w2.hx,aaG,_,rfl,_,rfl,cJ,fun ta c8=>?_⟩;have S4:=ar (o:= .tup [V.str a.1,V.str a.2]) c8;have jx:upd H3 ta (.tup [V.str a.1,V.str a.2]) ta=some (.tup [V.str a.1,V.str a.2]):=af;generalize upd H3 ta (.tup [V.str a.1,V.str a.2])=H4 at S4 jx ⊢;have lU:=S2.trans (S3.trans S4);have w4:=w1.same lU;have sL:=S1.trans lU;have kt:∀H',KT S H4 H'->aB H H':=fun H' k b u e=>k b u (aq e ffi) (aq e fdh) (aq e vd) (aq e fkp) (aq e fx1) (sL _ _ e);refine Bo.mk (S:=S) (a:=a) rfl (by rw[eW,eN];exact h.wo) w4 (bf _) jx (by rw[eW,eN];exact h.ua) (by rw[eW];exact h.ho) (fun n ho e H' k _ mo=>qn n (by rw[<-eW];exact ho) e H' (kt H' k) mo) fun z ho t y u JX jH H' k di pY hv ht=>?_
  exact⟨_,rfl,q z (by rw[<-eW];exact ho) S.x S.dx S.fi S.ow S.kp S.kn S.kd JX t y u jH H' (kt H' k) di pY hv ht⟩
inductive Br (M:Addr) (vs:List V) (H:Hp) (Q:VK) (E:XK):Prop
 |mk {wd t tb tt:Addr}{wt:List V}{aU:List Th}{th:Th}{o:Obj}{ws wb:List V}{aQ:List (Str×List Str)}{L:Str->List Str}{bk:Bk}{NU:List Str}{a:Ask} (_:vs = [.ref wd,.str th.1,.str a.1,.str a.2]) (_:rQ wd t tb tt wt aU th o ws wb aQ L bk NU a H)
  (_:∀n,aZ.Out ⟨L th.2.1,bk,th.2.2⟩ a (.miss n) -> ∀e H',aB H H'->AI M n H' e->E (.ref M) (some e) H')
  (_:∀z,aZ.Out ⟨L th.2.1,bk,th.2.2⟩ a (.told z) -> ∀H',aB H H'->Q (.int z) H'):Br M vs H Q E
theorem aet:bF qz qz (aI tI):=bV (by decide +kernel)
theorem Zv {k:Nat} (F:w9 K x qual st dv f fd) (S:bF N ps (aI st)) (len:∀vs H Q E,sp vs H Q E->vs.length=ps.length)
  (rA:∀ (aH:Value) (A:Around) (outer:List Env) (s:Shared) (H:Hp) (vs:List V) (Q:VK) (E:XK),bb k (A.deeper (envOfC qual (aI st) s.heap.objs.size f aH))->sp vs H Q E ->
   ∃t,ff (gm (d9 P w) P w K mg base N qual (aI st) f aH A outer s H E) (bH st) t/\t { nx:=fun _ H'=>Q .aF H',rt:=Q } (start N vs) H):aS P w K mg base (d9 P w) (k+1) f fd ps sp:=by
 obtain⟨oc,od,kV,doc,pm,an,aH,ct,iZ,rfl,lk,fg⟩:=F.ex;exact Ff lk fg S len fun A outer s H vs Q E hr gR=>rA aH A outer s H vs Q E hr gR
theorem acV {fW:Addr}{dW:FuncData} (F:w9 K "number_asked" "number_asked" tI dv f fd) (T:lE K mg C) (GW:dq P w K mg base (d9 P w) 8 fW dW qz (Bq C D M) "whole_asked"):aS P w K mg base (d9 P w) 9 f fd qz (Br M):=by
 refine Zv F aet (fun vs H Q E h=>?_) (fun aH A outer s H vs Q E hr h=>?_)
 ·obtain⟨rfl,_⟩:=h;rfl
 ·obtain @⟨wd,t,tb,tt,wt,aU,th,o,ws,wb,aQ,L,bk,NU,a,rfl,h,qn,q⟩:=h
  have hr8:bb 8 _:=hr;have bO:=iE hr.units;refine⟨_,aG (bz (a6 cx (jP bO (cF (aaj GW hr8 (ae (pv 0) (ae (pv 1) (ae (pv 2) (ae (pv 3) ah))))) rfl) (bJ (ae (pv 2) (ae (pv 3) ah))) (fun _ _=>rfl)) ay (fun _ _=>rfl))),?_⟩;refine⟨_,rfl,_,rfl,_,rfl,_,rfl,Bq.mk rfl h qn fun z ez x dx fi ow kp kn kd bg t y u kk H1 S1 i9 Tt hv1 yG=>?_⟩;refine⟨x,C,dx,_,.ref kn,rfl,i9,T.cl,T.nn,nN,_,rfl,_,rfl,cJ,fun ta c8=>?_⟩;have S2:=ar (o:= .tup [V.str a.1,V.str a.2]) c8;have qx:upd H1 ta (.tup [V.str a.1,V.str a.2]) ta=some (.tup ((d5 a).map kV)):=af;refine⟨kn,.ref t,rfl,?_,t,_,1,_,rfl,rfl,aE.of (S2 _ _ yG),iY,q z ez _ (S1.trans S2)⟩;rw[<-hv1];exact cU.t (S2 _ _ Tt) qx
end gu
namespace gu
open PySem L2 PySem.W HT
def vf (n:Int):PyData:= .tuple [.str "plain",.int n]
def iO (tag:Str) (i:Nat):PyData:= .tuple [.str tag,.tuple [.tuple [.str "onward"],.tuple [.str "times",.int 9],.tuple [.str "add",.int ((i:Int)+1)]]]
def oO (n:Str):PyData:= .tuple [.str "ahead",.str n,.int 0]
def oP (n:Str):PyData:= .tuple [.str "behind",.tuple [.tuple [.str "ask",.str n]]]
structure km (ks:List Str) (nm ot:Str) (bk:Bk):Prop where
 en:∀p∈bk,∃i:Nat,ks[i]? = some p.1/\((p.2.1=nm/\(p.2.2=vf ((i:Int)+1)\/p.2.2=iO "behind" i\/p.2.2=iO "shut" i))\/(p.2.1=ot/\(p.2.2=oO nm\/p.2.2=oP nm)))
 nd:(bk.map dY).Nodup
 aX:bk.length<=16
def cC (bk:Bk) (ks:List Str) (nm:Str):List Str->List Nat
 |[]=>[]
 |k::r=>match cy bk k nm with
  |none=>cC bk ks nm r
  |some d=>(ks.idxOf k+1)::(if b7 d = "plain" then [] else cC bk ks nm r)
def eP:List Nat->Int
 |[]=>0
 |d::ds=>(d:Int)+9 * eP ds
section
variable{bk:Bk}
theorem NI (h:∀k∈r,cy bk k nm=none):cC bk ks nm r = []:=by
 induction r with
 |nil=>rfl
 |cons k r ih =>
  unfold cC;rw[h k aW];exact ih fun x hx=>h x (bq _ hx)
theorem NJ {r1 r2:List Str} (h:∀k∈r1,cy bk k nm=none):cC bk ks nm (r1++r2)=cC bk ks nm r2:=by
 induction r1 with
 |nil=>rfl
 |cons k r ih =>
  have e:cC bk ks nm (k::(r++r2))=cC bk ks nm (r++r2):=by
   conv=>lhs;unfold cC
   rw[h k aW]
  show cC bk ks nm (k::(r++r2))=_;rw[e];exact ih fun x hx=>h x (bq _ hx)
theorem zI {n:Str}:∀ {r:List Str},(ck bk n r=none /\ ∀k∈r,cy bk k n=none) \/ ∃r1 k r2 d,r=r1++k::r2/\(∀x∈r1,cy bk x n=none)/\cy bk k n=some d/\ck bk n r=some (k,d)
 |[]=>.inl ⟨rfl,fun k h=>by cases h⟩
 |k::r=>by
  cases e:cy bk k n with
  |some d=>exact .inr ⟨[],k,r,d,rfl,fun x h=>(by cases h),e,by unfold ck;rw[e]⟩
  |none =>
   have e1:ck bk n (k::r)=ck bk n r:=by show(match cy bk k n with|some d=>some (k,d)|none=>ck bk n r)=_;rw[e]
   rcases zI (r:=r) (n:=n) with⟨h1,h2⟩|⟨r1,k',r2,d,h1,h2,h3,h4⟩
   ·refine .inl ⟨e1.trans h1,fun x hx=>?_⟩
    rcases bj.mp hx with z|z
    ·rw[z];exact e
    ·exact h2 x z
   ·refine .inr ⟨k::r1,k',r2,d,by rw[h1];rfl,fun x hx=>?_,h3,e1.trans h4⟩
    rcases bj.mp hx with z|z
    ·rw[z];exact e
    ·exact h2 x z
theorem zT (a:Ask):aZ.j0 ⟨line,bk,[]⟩ a=none:=by
 unfold aZ.j0;split <;> rfl
theorem aaK {l1 r2:List Str}{k:Str} (nd:(l1++k::r2).Nodup) (hk:k ≠ ""):cB (l1++k::r2) k=r2:=by
 unfold cB;rw[aj hk];have hn:k ∉ l1:=fun z=>(g9.mp nd).2.2 _ z _ aW rfl;have e:(l1++k::r2).idxOf k=l1.length:=by
  have h1:(l1++k::r2)[l1.length]? = some k:=by rw[anu (aP _),Nat.sub_self];rfl
  have hm:k∈l1++k::r2:=fH _ aW;have h2:(l1++k::r2).idxOf k < (l1++k::r2).length:=Lw.mpr hm;have h3:(l1++k::r2)[(l1++k::r2).idxOf k]? = some k:=by rw[b4 h2,V4]
  exact(Ln h2 nd).mp (h3.trans h1.symm)
 rw[e,show l1.length+1=(l1 ++ [k]).length by simp,show l1++k::r2=(l1 ++ [k])++r2 by simp,List.drop_left]
theorem abA {k:Str} (nd:ks.Nodup) (h:ks[i]? = some k):ks.idxOf k=i:=by
 obtain⟨hi,e⟩:=cu.mp h;have h2:ks.idxOf k < ks.length:=Lw.mpr (e ▸ kY hi);have h3:ks[ks.idxOf k]? = some k:=by rw[b4 h2,V4]
 exact(Ln h2 nd).mp (h3.trans h.symm)
theorem Zw (mb:km ks nm ot bk) (kn:ks.Nodup) (ne:nm≠ot) (oQ:line.Nodup) (le:∀k∈line,k ≠ ""):∀ (n:Nat) (l r:List Str) (a:Ask),r.length=n->line=l++r->a.1=nm->cB line a.2=r ->
  (cC bk ks nm r = []->aZ.Out ⟨line,bk,[]⟩ a (.miss nm))/\(cC bk ks nm r ≠ []->aZ.Out ⟨line,bk,[]⟩ a (.told (eP (cC bk ks nm r)))):=by
 intro n
 induction n using Nat.strongRecOn with
 |_ n ih =>
  intro l r a hn el ea eb;have CQ:aZ.look ⟨line,bk,[]⟩ a=ck bk nm r:=by show ck bk a.1 (cB line a.2)=_;rw[ea,eb]
  rcases zI (bk:=bk) (n:=nm) (r:=r) with⟨h1,h2⟩|⟨r1,k,r2,d,h1,h2,h3,h4⟩
  ·refine⟨fun _=>?_,fun z=>absurd (NI h2) z⟩
   have:=Out.none (W:=⟨line,bk,[]⟩) (a:=a) (zT a) (CQ.trans h1);rw[ea]at this;exact this
  ·have ed:cC bk ks nm r=(ks.idxOf k+1)::(if b7 d = "plain" then [] else cC bk ks nm r2):=by
    rw[h1,NJ h2]
    conv=>lhs;unfold cC
    rw[h3]
   rw[ed];refine⟨fun z=>(by cases z),fun _=>?_⟩
   obtain⟨i,hi,hp⟩:=mb.en (k,nm,d) (qN h3);have ei:ks.idxOf k=i:=abA kn hi;rw[ei];have hd:d=vf ((i:Int)+1)\/d=iO "behind" i\/d=iO "shut" i:=by
    rcases hp with⟨_,z⟩|⟨z,_⟩
    ·exact z
    ·exact absurd z ne
   have nf:=df.new (W:=⟨line,bk,[]⟩) (zT a) (CQ.trans h4);have CS:line=(l++r1)++k::r2:=by rw[el,h1,KZ]
   have kn':k ≠ "" :=le k (by rw[CS];exact fH _ aW)
   have ek:cB line k=r2:=by rw[CS];exact aaK (by rw[<-CS];exact oQ) kn'
   have bs:∀tag:Str,tag = "behind" \/ tag = "shut" -> d=iO tag i->aZ.Out ⟨line,bk,[]⟩ a (.told (eP ((i+1)::(if b7 d = "plain" then [] else cC bk ks nm r2)))):=by
    intro tag ht e;have tg : ¬ b7 d = "plain" :=by
     rw[e];show ¬ tag = "plain";rcases ht with z|z <;> (rw[z];decide +kernel)
    rw[aj tg];have es:iA d = [.tuple [.str "onward"],.tuple [.str "times",.int 9],.tuple [.str "add",.int ((i:Int)+1)]]:=by rw[e];rfl
    rw[es]at nf;have i2:=ih r2.length (by rw[<-hn,h1,dz,d7];omega) ((l++r1) ++ [k]) r2 (nm,k) rfl (by rw[CS];simp) rfl ek
    have Pg:aZ.need ⟨line,bk,[]⟩ a.1 k (.tuple [.str "onward"])=if (ck bk nm r2).isSome=true then some (nm,k) else none:=by
     unfold aZ.need;rw[aj (by show ¬ (("onward" : Str) = "ask");decide +kernel),ax (by show("onward" : Str) = "onward"; rfl),ea]
     show(if (ck bk nm (cB line k)).isSome=true then _ else _)=_;rw[ek]
    have Ph:aZ.need ⟨line,bk,[]⟩ a.1 k (.tuple [.str "times",.int 9])=none:=by
     unfold aZ.need;rw[aj (by show ¬ (("times" : Str) = "ask");decide +kernel),aj (by show ¬ (("times" : Str) = "onward");decide +kernel)]
    have Pj:aZ.need ⟨line,bk,[]⟩ a.1 k (.tuple [.str "add",.int ((i:Int)+1)])=none:=by
     unfold aZ.need;rw[aj (by show ¬ (("add" : Str) = "ask");decide +kernel),aj (by show ¬ (("add" : Str) = "onward");decide +kernel)]
    have st1:∀t:Int,stepT t (.tuple [.str "onward"])=t:=fun t=>by unfold stepT;rw[aj (by show ¬ (("onward" : Str) = "add");decide +kernel),aj (by show ¬ (("onward" : Str) = "times");decide +kernel)]
    have mO:∀t:Int,stepT t (.tuple [.str "times",.int 9])=t * 9:=fun t=>by unfold stepT;rw[aj (by show ¬ (("times" : Str) = "add");decide +kernel),ax (by show("times" : Str) = "times"; rfl)];rfl
    have lK:∀t:Int,stepT t (.tuple [.str "add",.int ((i:Int)+1)])=t+((i:Int)+1):=fun t=>by unfold stepT;rw[ax (by show("add" : Str) = "add"; rfl)];rfl
    rcases zI (bk:=bk) (n:=nm) (r:=r2) with⟨g1,g2⟩|⟨_,_,_,d2,_,_,_,g4⟩
    ·have f1:=nf.step rfl (by rw[Pg,g1];rfl)
     have f2:=f1.step rfl Ph;have f3:=(f2.step rfl Pj).done rfl;rw[NI g2];have e0:stepT (stepT (stepT 0 (.tuple [.str "onward"])) (.tuple [.str "times",.int 9])) (.tuple [.str "add",.int ((i:Int)+1)])=eP [i+1]:=by rw[st1,mO,lK];show(0:Int) * 9+_=((i+1:Nat):Int)+9 * 0;omega
     rw[<-e0];exact f3
    ·have dn:cC bk ks nm r2 ≠ []:=by
      intro z;rcases zI (bk:=bk) (n:=nm) (r:=r2) with⟨y1,_⟩|⟨q1,q2,q3,q4,q5,q6,q7,_⟩
      ·rw[y1]at g4;cases g4
      ·rw[q5,NJ q6]at z
       unfold cC at z;rw[q7]at z;cases z
     have o2:=i2.2 dn;have f1:=nf.take rfl (by rw[Pg,g4];rfl) o2
     have f2:=f1.step rfl Ph;have f3:=(f2.step rfl Pj).done rfl;have e0:stepT (stepT (0+eP (cC bk ks nm r2)) (.tuple [.str "times",.int 9])) (.tuple [.str "add",.int ((i:Int)+1)])=eP ((i+1)::cC bk ks nm r2):=by rw[mO,lK];show _=((i+1:Nat):Int)+9 * eP _;omega
     rw[<-e0];exact f3
   rcases hd with e|e|e
   ·have tg:b7 d = "plain" :=by rw[e];rfl
    rw[ax tg];have es:iA d = [.tuple [.str "add",.int ((i:Int)+1)]]:=by rw[e];rfl
    rw[es]at nf;have f3:=(nf.step rfl (by unfold aZ.need;rw[aj (by show ¬ (("add" : Str) = "ask");decide +kernel),aj (by show ¬ (("add" : Str) = "onward");decide +kernel)])).done rfl
    have e0:stepT 0 (.tuple [.str "add",.int ((i:Int)+1)])=eP [i+1]:=by
     unfold stepT;rw[ax (by show("add" : Str) = "add"; rfl)];show(0:Int)+((i:Int)+1)=((i+1:Nat):Int)+9 * 0;omega
    rw[<-e0];exact f3
   ·exact bs "behind" (.inl rfl) e
   ·exact bs "shut" (.inr rfl) e
theorem Yv (mb:km ks nm ot bk) (ne:nm≠ot):(ck bk ot line=none->aZ.Out ⟨line,bk,[]⟩ (ot,"") (.miss ot))/\(ck bk ot line≠none -> ∀r,aZ.Out ⟨line,bk,[]⟩ (nm,"") r->aZ.Out ⟨line,bk,[]⟩ (ot,"") r):=by
 have CQ:aZ.look ⟨line,bk,[]⟩ (ot,"")=ck bk ot line:=rfl;refine⟨fun h=>Out.none (W:=⟨line,bk,[]⟩) (a:=(ot,"")) (zT _) h,fun h r ho=>?_⟩;cases e:ck bk ot line with
 |none=>exact absurd e h
 |some p =>
  obtain⟨k,d⟩:=p;have nf:=df.new (W:=⟨line,bk,[]⟩) (zT (ot,"")) (CQ.trans e);obtain⟨i,_,hp⟩:=mb.en (k,ot,d) (qN (vX e).2);have hd:d=oO nm\/d=oP nm:=by
   rcases hp with⟨z,_⟩|⟨_,z⟩
   ·exact absurd z.symm ne
   ·exact z
  have Ud:aZ.need ⟨line,bk,[]⟩ ot k (.tuple [.str "ask",.str nm])=some ((nm,("" : Str)):Ask):=by unfold aZ.need;rw[ax (by show("ask" : Str) = "ask"; rfl)];rfl
  have go:∃ds,iA d = .tuple [.str "ask",.str nm]::ds/\(ds = []\/ds = [.tuple [.str "add",.int 0]]):=by
   rcases hd with e|e
   ·exact⟨_,by rw[e];rfl,.inr rfl⟩
   ·exact⟨_,by rw[e];rfl,.inl rfl⟩
  obtain⟨ds,es,se⟩:=go;rw[es]at nf;cases r with
  |miss m=>exact nf.miss rfl Ud ho
  |told z =>
   have f1:=nf.take rfl Ud ho;rcases se with rfl|rfl
   ·have:=f1.done rfl
    rw[show(0:Int)+z=z by omega]at this
    exact this
   ·have:=(f1.step rfl (by unfold aZ.need;rw[aj (by show ¬ (("add" : Str) = "ask");decide +kernel),aj (by show ¬ (("add" : Str) = "onward");decide +kernel)])).done rfl
    have e0:stepT (0+z) (.tuple [.str "add",.int 0])=z:=by unfold stepT;rw[ax (by show("add" : Str) = "add"; rfl)];show(0:Int)+z+0=z;omega
    rw[<-e0];exact this
end
def resT (r:Rs):List V:=match r with|.told z=>[.str "told",.int z]|.miss n=>[.str "missing",.str n]
theorem acW {b:Bool}{A:Prop}{T:St->Hp->Prop} (iF:St->Hp->Prop) (h1:b=true->(∀aK H',iF aK H'->T aK H')->A) (h2:b≠true->iF σ H) (h3:∀aK H',iF aK H'->T aK H'):if b=true then A else T σ H:=by
 cases b with
 |true=>exact h1 rfl h3
 |false=>exact h3 _ _ (h2 cw)
def fc (l:List Nat):List V:=l.map fun d:Nat=>V.int (d:Int)
inductive xp (vs:List V) (H:Hp) (Q:VK) (E:XK):Prop
 |mk {wd t tb tt:Addr}{wt:List V}{aU:List Th}{th:Th}{o:Obj}{ws wb:List V}{aQ:List (Str×List Str)}{L:Str->List Str}{bk:Bk}{NU:List Str}{a:Ask}{r:Rs} (_:vs = [.ref wd,.str th.1,.str a.1,.str a.2]) (_:rQ wd t tb tt wt aU th o ws wb aQ L bk NU a H) (_:aZ.Out ⟨L th.2.1,bk,th.2.2⟩ a r)
  (_:∀p H',aB H H'->H' p=some (.tup (resT r))->Q (.ref p) H'):xp vs H Q E
abbrev J7:List Str:= ["_law_world","_law_thing","_law_name","_law_behind"]
abbrev nTd:List Str:= ["_law_world","_law_thing","_law_name","_law_behind","_law_told_here","e"]
theorem xq:bF nTd J7 (aI Ft):=bV (by decide +kernel)
theorem acX {fA:Addr}{dA:FuncData} (F:aY K "_law_told" "_law_told" Ft f fd) (TM:Fx K mg B M fI dI) (me:mroIn K M (.ref M)=some true) (GA:dq P w K mg base (d9 P w) 9 fA dA qz (Br M) "number_asked"):aS P w K mg base aO 10 f fd J7 xp:=by
 refine F.ok xq (fun vs H Q E h=>?_) (fun aH A outer s H vs Q E hr h=>?_)
 ·obtain⟨rfl,_⟩:=h;rfl
 ·obtain @⟨wd,t,tb,tt,wt,aU,th,o,ws,wb,aQ,L,bk,NU,a,r,rfl,h,ho,q⟩:=h
  have hr9:bb 9 _:=hr;refine⟨_,aA (ba (i:=4) xq.nd rfl (Or.inl rfl) (bJ ah))
   (aA (Yi (j:=5) (C:=M) (fun pins D=>aG (ba (i:=4) xq.nd rfl (Or.inl rfl) (bJ (ae b9 (ae (aak GA hr9 (ae (pv 0) (ae (pv 1) (ae (pv 2) (ae (pv 3) ah))))) ah)))))
     xq.nd rfl rfl rfl rfl rfl rfl rfl TM.mC TM.q (fun a=>aG (ba (i:=4) xq.nd rfl (Or.inl rfl) (bJ (ae b9 (ae (aah (pv 5)) ah))))))
   (aG (bz (pv 4)))),?_⟩
  refine⟨bf _,fun p0 yo=>?_⟩;have S0:=ar (o:= .tup []) yo;generalize upd H p0 (.tup [])=H0 at S0 ⊢;refine⟨_,rfl,_,rfl,_,rfl,_,rfl,Br.mk rfl (h.same S0) (fun n e a H1 S1 mo=>?_) fun z ez H1 S1=>?_⟩
  ·refine⟨⟨M,rfl,me⟩,a,rfl,?_⟩
   obtain⟨d,ha,hd⟩:=mo;refine⟨_,rfl,a,_,_,d,_,.str n,rfl,ha,hd,TM.x,TM.nk,rfl,cJ,fun r' ig=>?_⟩;have S2:=ar (o:= .tup [V.str "missing",.str n]) ig;exact⟨_,rfl,q r' _ (S0.trans (S1.trans S2)) (by rw[Out.uniq ho e];exact af)⟩
  ·refine⟨cJ,fun r' ig=>?_⟩
   have S2:=ar (o:= .tup [V.str "told",.int z]) ig;exact⟨_,rfl,q r' _ (S0.trans (S1.trans S2)) (by rw[Out.uniq ho ez];exact af)⟩
inductive xr (vs:List V) (H:Hp) (Q:VK) (E:XK):Prop
 |mk {lk la db:Addr}{ks line:List Str}{kvs:List (List Key×V)}{bk:Bk}{name a7:Str} (_:vs = [.ref lk,.ref la,.ref db,.str name,.str a7]) (_:H lk=some (.lst (ks.map V.str))) (_:H la=some (.lst (line.map V.str))) (_:line.length<=200) (_:∀k∈line,k∈ks) (_:H db=some (.dT kvs)) (_:d4 H kvs bk) (_:mH bk) (_:a7 = "" \/ a7∈line)
  (_:∀r H',aB H H'->H' r=some (.lst (fc (cC bk ks name (cB line a7))))->Q (.ref r) H'):xr vs H Q E
abbrev J8:List Str:= ["_law_kinds","_law_line_here","_law_book","_law_name","_law_behind"]
abbrev nDu:List Str:= ["_law_kinds","_law_line_here","_law_book","_law_name","_law_behind","_law_here","_law_found","_law_is_open","_law_kind"]
theorem rR:bF nDu J8 (aI Ge):=bV (by decide +kernel)
def dg (bk:Bk) (ks:List Str) (nm:Str):List Str->List Nat×Bool
 |[]=>([],true)
 |k::r=>match cy bk k nm with
  |none=>dg bk ks nm r
  |some d=>if b7 d = "plain" then ([ks.idxOf k+1],false) else ((ks.idxOf k+1)::(dg bk ks nm r).1,(dg bk ks nm r).2)
theorem z8 {bk:Bk}{ks:List Str}{nm:Str}:∀r:List Str,(dg bk ks nm r).1=cC bk ks nm r
 |[]=>rfl
 |k::r=>by
  unfold dg cC;cases cy bk k nm with
  |none=>exact z8 r
  |some d =>
   by_cases c:b7 d = "plain"
   ·simp only[c,kA]
   ·simp only[c,ir,z8 r]
theorem M0 {bk:Bk}{ks:List Str}{nm k:Str}:∀r:List Str,dg bk ks nm (r ++ [k])=if (dg bk ks nm r).2=true then (match cy bk k nm with|none=>((dg bk ks nm r).1,true)|some d=>((dg bk ks nm r).1 ++ [ks.idxOf k+1],!decide (b7 d = "plain"))) else dg bk ks nm r
 |[]=>by
  show dg bk ks nm [k]=_;unfold dg;cases e:cy bk k nm with
  |none=>simp[dg]
  |some d=>by_cases c:b7 d = "plain" <;> simp[dg,c]
 |x::r=>by
  have ih:=M0 (bk:=bk) (ks:=ks) (nm:=nm) (k:=k) r;show dg bk ks nm (x::(r ++ [k]))=_;unfold dg;cases e:cy bk x nm with
  |none=>exact ih
  |some d =>
   by_cases c:b7 d = "plain"
   ·simp[c]
   ·simp only[c,ir]
    rw[ih];cases h2:(dg bk ks nm r).2 with
    |false=>simp[h2]
    |true =>
     cases cy bk k nm with
     |none=>simp
     |some d'=>simp
theorem El {bk:Bk}{ks:List Str}{nm:Str}:∀r:List Str,(dg bk ks nm r).1.length<=r.length
 |[]=>aP _
 |k::r=>by
  unfold dg;have ih:=El (bk:=bk) (ks:=ks) (nm:=nm) r;cases cy bk k nm with
  |none=>exact Di ih
  |some d =>
   by_cases c:b7 d = "plain"
   ·simp[c]
   ·simp only[c,ir,d7];omega
theorem abB (F:aY K "_law_due" "_law_due" Ge f fd):aS P w K mg base aO 1 f fd J8 xr:=by
 refine F.ok rR (fun vs H Q E h=>?_) (fun aH A outer s H vs Q E hr h=>?_)
 ·obtain⟨rfl,_⟩:=h;rfl
 ·obtain @⟨lk,la,db,ks,line,kvs,bk,name,a7,rfl,sC,gY,aeu,jJ,cN,dv,ok,hb,q⟩:=h
  have bO:=iE hr.units;refine⟨_,aA (ba (i:=5) rR.nd rfl (Or.inl rfl) (pv 1))
   (aA (cf (bK nR (pv 4) b9 (bQ _)) (aG (ba (i:=5) rR.nd rfl (Or.inl rfl) (tM Ew (pv 1) (tU (cH lr (jq k9 aoj aok Nb (pv 1) (ae (pv 4) ah)) ay)) tT))) cO)
   (aA (ba (i:=6) rR.nd rfl (Or.inl rfl) (dQ ah))
   (aA (ba (i:=7) rR.nd rfl (Or.inl rfl) pH)
   (aA (jR iR rfl (gB (pv 5)) (bp (i:=8) rR.nd rfl (Or.inl rfl))
    (aG (cf (PW.pt (pw_and (pA (pv 7)) (pw_and1 (mj (pF bO (bJ (ae (pv 8) (ae (pv 3) ah))) (pv 2))))))
     (aA (gG (jq k9 vx vy o8 (pv 6) (ae (cH lr (jq k9 aoj aok Nb (pv 0) (ae (pv 8) ah)) ay) ah)))
     (aG (ba (i:=7) rR.nd rfl (Or.inl rfl) (qV nR (a6 cx (jP bO (pv 2) (bJ (ae (pv 8) (ae (pv 3) ah))) (fun _ _=>rfl)) ay (fun _ _=>rfl)) b9 (bQ _))))) cO)))
   (aG (bz (pv 6))))))),?_⟩
  refine⟨_,rfl,_,rfl,rfl,_,rfl,acW (fun aK H'=>∃lh,aK = [some (.ref lk),some (.ref la),some (.ref db),some (.str name),some (.str a7),some (.ref lh),none,none,none]/\aB H H'/\H' lh=some (.lst ((cB line a7).map V.str))) (fun e k=>?_) (fun e=>⟨la,rfl,aB.refl _,?_⟩) ?_⟩
  ·have bY:a7 ≠ "" :=fun z=>by rw[z]at e;revert e;decide +kernel
   have hm:a7∈line:=hb.resolve_left bY;obtain⟨i1,i2⟩:=Ei hm;refine⟨_,rfl,_,rfl,.inl ⟨rfl,_,ak.of gY⟩,_,rfl,la,line,a7,line.idxOf a7,rfl,rfl,gY,i1,i2,_,_,rfl,rfl,_,rfl,la,_,rfl,ak.of gY,fun c hc=>?_⟩;refine k _ _ ⟨c,rfl,ar hc,?_⟩;have e1:cB line a7=line.drop (line.idxOf a7+1):=by unfold cB;rw[aj bY]
   have e2:=Ef (line.map V.str) (line.idxOf a7+1);rw[af,e1,V0];exact eU some (eU HO.lst e2)
  ·have:a7 = "" :=by
    by_cases z:a7 = ""
    ·exact z
    ·exact absurd (by simpa using fun y=>z y) e
   unfold cB;rw[ax this];exact gY
  rintro σ H2 ⟨lh,rfl,S2,h2⟩;have Ue:∀y∈cB line a7,y∈line:=fun y hy=>by
   unfold cB at hy;split at hy
   ·exact hy
   ·exact Dp hy
  have rl:(cB line a7).length<=200:=by
   unfold cB;split
   ·exact aeu
   ·rw[vn];omega
  generalize Pb:cB line a7=rest at h2 q Ue rl;refine⟨bf _,fun lf gJ=>?_⟩;have yq:lh≠lf:=aq h2 gJ;have S3:=ar (o:= .lst []) gJ;have J9:=S3 _ _ h2;have Ug:upd H2 lf (.lst []) lf=some (.lst []):=af;generalize upd H2 lf (.lst [])=H3 at S3 J9 Ug ⊢;have S03:=S2.trans S3;have flH:H lf=none:=S2.free gJ;refine⟨_,rfl,lh,rfl,⟨_,ak.of J9⟩,tL (xs:=rest.map V.str) (fun i σ H4=>∃v8:Option V,σ = [some (.ref lk),some (.ref la),some (.ref db),some (.str name),some (.str a7),some (.ref lh),some (.ref lf),some (.bl (dg bk ks name (rest.take i)).2),v8]/\aB H H4/\H4 lh=some (.lst (rest.map V.str))/\H4 lf=some (.lst (fc (dg bk ks name (rest.take i)).1)))
   ⟨none,rfl,S03,J9,Ug⟩ (fun i σ H4 _ ⟨_,_,_,z,_⟩=>ak.of z) ?_ ?_⟩
  ·rintro i y σ H4 hy ⟨v8,rfl,S4,jd,qq⟩
   have cD:i < rest.length:=by simpa using (cu.mp hy).1
   obtain rfl:V.str rest[i]=y:=by simpa [cD] using hy
   have gf:rest.take (i+1)=rest.take i ++ [rest[i]]:=by rw[eX,b4 cD];rfl
   have sn:=M0 (bk:=bk) (ks:=ks) (nm:=name) (k:=rest[i]) (rest.take i);have dl:=El (bk:=bk) (ks:=ks) (nm:=name) (rest.take i);rw[eJ]at dl;rw[<-gf]at sn;refine⟨_,rfl,_,rfl,?_⟩;cases oA:(dg bk ks name (rest.take i)).2 with
   |false =>
    rw[oA,aj cw]at sn;exact⟨some (V.str rest[i]),by rw[sn,oA];rfl,S4,jd,by rw[sn];exact qq⟩
   |true =>
    rw[oA,ax rfl]at sn;refine⟨_,rfl,_,rfl,cJ,fun kt jf=>?_⟩;have Sk:=ar (o:= .tup [V.str rest[i],V.str name]) jf;have jK:upd H4 kt (.tup [V.str rest[i],V.str name]) kt=some (.tup (([Sum.inr rest[i],Sum.inr name]:List Key).map kV)):=af;generalize upd H4 kt (.tup [V.str rest[i],V.str name])=H5 at Sk jK ⊢;have S5:=S4.trans Sk;have aev:=S5 _ _ cN;refine⟨_,rfl,db,_,rfl,cU.t (k:= [Sum.inr rest[i],Sum.inr name]) aev jK,_,rfl,?_⟩;rcases (dv.same S5).look (k:=rest[i]) (n:=name) ok.nd with⟨e1,e2⟩|⟨v,d,e1,e2,rv⟩
    ·rw[e2]
     rw[e1]at sn;exact⟨some (V.str rest[i]),by rw[sn];rfl,S5,Sk _ _ jd,by rw[sn];exact Sk _ _ qq⟩
    ·rw[e2]
     rw[e1]at sn;have hm:rest[i]∈ks:=jJ _ (Ue _ (kY cD));obtain⟨i1,i2⟩:=Ei hm;have uD:=S5 _ _ sC;have J':=Sk _ _ qq;refine⟨_,rfl,.inl ⟨rfl,_,ak.of J'⟩,_,rfl,.inl ⟨rfl,_,ak.of uD⟩,_,rfl,lk,ks,rest[i],ks.idxOf rest[i],rfl,rfl,uD,i1,i2,_,_,rfl,rfl,lf,_,_,rfl,rfl,J',by unfold fc;rw[aJ,aT];omega,?_⟩
     have en:Ent d:=ok.ent _ (qN e1);have Ka:∀ {zs:List V} b o,b≠lf->H5 b=some o->upd H5 lf (.lst zs) b=some o:=fun b o n e=>by rw[ag n];exact e
     have S6:∀ {zs:List V},aB H (upd H5 lf (.lst zs)):=fun {zs} b o e=>Ka _ _ (aq e flH) (S5 _ _ e);have el:fc (dg bk ks name (rest.take i)).1 ++ [V.int ((ks.idxOf rest[i]:Int)+1)]=fc (dg bk ks name (rest.take (i+1))).1:=by rw[sn];unfold fc;rw[bB];rfl
     rw[el];have sy:=Ka (zs:=fc (dg bk ks name (rest.take (i+1))).1) _ _ yq (Sk _ _ jd);have qA:=S6 (zs:=fc (dg bk ks name (rest.take (i+1))).1);have Uh:upd H5 lf (.lst (fc (dg bk ks name (rest.take (i+1))).1)) lf=some (.lst (fc (dg bk ks name (rest.take (i+1))).1)):=af;have Ui:Rep (upd H5 lf (.lst (fc (dg bk ks name (rest.take (i+1))).1))) v d:=en.keep rv fun b xs e=>Ka _ _ (ao e J' (by intro z;cases z)) e
     generalize upd H5 lf (.lst (fc (dg bk ks name (rest.take (i+1))).1))=H6 at sy qA Uh Ui ⊢;refine⟨_,rfl,_,rfl,_,rfl,cJ,fun Kb aew=>?_⟩;have vg:=ar (o:= .tup [V.str rest[i],V.str name]) aew;have Uj:upd H6 Kb (.tup [V.str rest[i],V.str name]) Kb=some (.tup (([Sum.inr rest[i],Sum.inr name]:List Key).map kV)):=af;generalize upd H6 Kb (.tup [V.str rest[i],V.str name])=H7 at vg Uj ⊢;obtain⟨ea,xs,rfl,yJ⟩:=EK en (Ui.same vg);refine⟨db,.ref ea,rfl,by rw[<-e2];exact cU.t (k:= [Sum.inr rest[i],Sum.inr name]) (vg _ _ (qA _ _ cN)) Uj,ea,_,0,_,rfl,rfl,aE.of yJ,gn,rfl,?_⟩
     refine⟨some (V.str rest[i]),?_,qA.trans vg,vg _ _ sy,vg _ _ Uh⟩;rw[sn];have eb:(!decide (V.str (b7 d)=V.str "plain")) = !decide (b7 d = "plain"):=by
      congr 1
      exact V5.mpr ⟨fun h=>by injection h,fun h=>by rw[h]⟩
     show _ = [some (V.ref lk),some (V.ref la),some (V.ref db),some (V.str name),some (V.str a7),some (V.ref lh),some (V.ref lf),some (V.bl (!decide (b7 d = "plain"))),some (V.str rest[i])];rw[<-eb];rfl
  ·rintro σ H4 ⟨v8,rfl,S4,jd,qq⟩
   rw[aJ,eK,z8]at qq;exact⟨_,rfl,q lf H4 S4 qq⟩
theorem Om:∀ {ds:List Nat},(∀d∈ds,1<=d/\d<=8)->0<=eP ds/\eP ds < 9 ^ ds.length
 |[],_=>⟨by decide,by decide⟩
 |d::ds,h=>by
  obtain⟨i1,i2⟩:=Om fun x hx=>h x (bq _ hx);obtain⟨h1,h2⟩:=h d aW;show 0<=(d:Int)+9 * eP ds/\(d:Int)+9 * eP ds < 9 ^ (ds.length+1);rw[Int.pow_succ];generalize (9:Int) ^ ds.length=x at i2 ⊢;omega
theorem NK {ds:List Nat} (h:∀d∈ds,1<=d/\d<=8) (hl:ds.length<=8):0<=eP ds/\eP ds < 43046721:=by
 obtain⟨h1,h2⟩:=Om h;refine⟨h1,VZ h2 ?_⟩;have:(9:Int) ^ ds.length<=9 ^ 8:=by exact_mod_cast Nat.pow_le_pow_right (by decide) hl
 exact this
inductive xt (vs:List V) (H:Hp) (Q:VK) (E:XK):Prop
 |mk {ds:List Nat} (_:vs = [.int (eP ds)]) (_:∀d∈ds,1<=d/\d<=8) (_:ds.length<=8) (_:∀r H',aB H H'->H' r=some (.lst (fc ds))->Q (.ref r) H'):xt vs H Q E
abbrev nRd:List Str:= ["_law_number_here","_law_found","_law_turn"]
theorem Bs:bF nRd ["_law_number_here"] (aI Fu):=bV (by decide +kernel)
theorem acY (F:aY K "_law_read" "_law_read" Fu f fd) (B:gV mg) (B3:QL mg):aS P w K mg base aO 1 f fd ["_law_number_here"] xt:=by
 refine F.ok Bs (fun vs H Q E h=>?_) (fun aH A outer s H vs Q E hr h=>?_)
 ·obtain⟨rfl,_⟩:=h;rfl
 ·obtain @⟨ds,rfl,hd,hl,q⟩:=h
  refine⟨_,aA (ba (i:=1) Bs.nd rfl (Or.inl rfl) (dQ ah))
   (aA (jR iR rfl (qO rfl B.range (ae ay ah)) (bp (i:=2) Bs.nd rfl (Or.inl rfl))
    (aG (cf (bK Ao (pv 0) ay (bQ _)) (aA (gG (jq k9 vx vy o8 (pv 1) (ae (cH qZ (pv 0) ay) ah))) (aG (ba (i:=0) Bs.nd rfl (Or.inl rfl) (cH NT (pv 0) ay)))) cO)))
   (aG (bz (cH v9 (pv 1) (cH Zd (dQ (ae ay ah)) (gF Yb rfl B3.int boot_int (ae (qV Ao (pv 0) ay (bQ _)) ah))))))),?_⟩
  refine⟨bf _,fun lf gJ=>?_⟩;have S1:=ar (o:= .lst []) gJ;have h1:upd H lf (.lst []) lf=some (.lst []):=af;generalize upd H lf (.lst [])=H1 at S1 h1 ⊢;refine⟨9,rfl,by decide,by decide,vE (fun i σ H2=>∃v2:Option V,σ = [some (.int (eP (ds.drop i))),some (.ref lf),v2]/\aB H H2/\H2 lf=some (.lst (fc (ds.take i)))) ⟨none,rfl,S1,h1⟩ ?_ ?_⟩
  ·rintro i σ H2 hi ⟨v2,rfl,S2,h2⟩
   refine⟨_,rfl,_,_,rfl,rfl,_,rfl,?_⟩;have hb:∀d∈ds.drop i,1<=d/\d<=8:=fun d kI=>hd d (Dp kI);have big:=NK hb (by rw[vn];omega)
   by_cases cD:i < ds.length
   ·have ed:ds.drop i=ds[i]::ds.drop (i+1):=vp cD
    obtain⟨b1,b2⟩:=hd _ (kY cD);have aoA:=NK (ds:=ds.drop (i+1)) (fun d kI=>hd d (Dp kI)) (by rw[vn];omega)
    have en:eP (ds.drop i)=(ds[i]:Int)+9 * eP (ds.drop (i+1)):=by rw[ed];rfl
    have e1:eP (ds.drop i) % 9=(ds[i]:Int):=by rw[en];omega
    have e2:eP (ds.drop i) / 9=eP (ds.drop (i+1)):=by rw[en];omega
    have gf:ds.take (i+1)=ds.take i ++ [ds[i]]:=by rw[eX,b4 cD];rfl
    refine c7 (fun _=>?_) (fun z=>absurd (fY (by omega)) z)
    refine⟨_,rfl,.inl ⟨rfl,_,ak.of h2⟩,_,rfl,_,_,rfl,rfl,(by show(0:Int) < 9;decide),lf,_,_,rfl,rfl,h2,by unfold fc;rw[aJ,eJ,aT];omega,?_⟩
    refine⟨_,rfl,_,_,rfl,rfl,⟨by decide,by decide⟩,?_⟩
    refine⟨_,by rw[<-e2];rfl,fun b o e=>by rw[ag (aq e gJ)];exact S2 _ _ e,?_⟩
    have el:fc (ds.take i) ++ [V.int (eP (ds.drop i) % 9)]=fc (ds.take (i+1)):=by rw[gf,e1];unfold fc;rw[bB];rfl
    rw[af];exact eU some (eU HO.lst el)
   ·have e0:ds.drop i = []:=V6 (by omega)
    have en:eP (ds.drop i)=0:=by rw[e0];rfl
    refine c7 (fun z=>absurd (iQ z) (by rw[en];decide)) (fun _=>?_)
    exact⟨_,by rw[V6 (by omega:ds.length<=i+1),e0];rfl,S2,by rw[Dk (by omega:ds.length<=i+1)];rw[Dk (by omega:ds.length<=i)]at h2;exact h2⟩
  ·rintro σ H2 ⟨v2,rfl,S2,h2⟩
   have e0:ds.drop (Int.toNat 9) = []:=V6 (by show ds.length<=9;omega)
   have en:eP (ds.drop (Int.toNat 9))=0:=by rw[e0];rfl
   rw[Dk (by show ds.length<=9;omega)]at h2
   rw[en];refine⟨_,rfl,gI,fun c hc=>?_⟩;have S3:=ar (o:= .lst [V.int 0]) hc;refine⟨_,rfl,_,_,rfl,rfl,false,rfl,c,_,rfl,rfl,ak.of af,fun c2 gT=>?_⟩;have S4:=S3.trans (ar (o:= .lst []) gT);refine⟨lf,c2,_,_,rfl,rfl,S4 _ _ h2,af,by unfold fc;rw[aJ,aT];show _+0<=_;omega,fun r ig=>?_⟩
   rw[jM];exact q r _ (S2.trans (S4.trans (ar ig))) af
theorem Oo {tag:Str} (ht:tag = "behind" \/ tag = "shut") (hi:i<=8):Ent (iO tag i):=by
 have hs:∀d ∈ [PyData.tuple [.str "onward"],.tuple [.str "times",.int 9],.tuple [.str "add",.int ((i:Int)+1)]],je d:=fun d hd=>by
  simp only[bj,jm,jn]at hd;rcases hd with z|z|z
  ·rw[z];exact .E7
  ·rw[z];exact .times 9 (by decide) (by decide)
  ·rw[z];exact .add _ (by omega)
 rcases ht with z|z
 ·rw[z];exact .behind _ (by show 3<=4;decide) hs
 ·rw[z];exact .uA _ (by show 3<=4;decide) hs
theorem wq {n:Str}{d:PyData} (hi:i<=8) (hn:Nm nm) (h:(n=nm/\(d=vf ((i:Int)+1)\/d=iO "behind" i\/d=iO "shut" i))\/(n=ot/\(d=oO nm\/d=oP nm))):Ent d:=by
 rcases h with⟨_,z|z|z⟩|⟨_,z|z⟩
 ·rw[z];exact .plain _ (by omega)
 ·rw[z];exact Oo (.inl rfl) hi
 ·rw[z];exact Oo (.inr rfl) hi
 ·rw[z];exact .ahead nm 0 hn (by decide)
 ·rw[z];exact .behind _ (by show 1<=4;decide) fun s hs=>by rw[dH.mp hs];exact .ask nm hn
structure jL (H:Hp) (db:Addr) (kvs:List (List Key×V)) (bk:Bk) (ks:List Str) (nm ot:Str) (i:Nat) (b:Bool):Prop where
 hd:H db=some (.dT kvs)
 dv:d4 H kvs bk
 en:∀p∈bk,∃j:Nat,ks[j]? = some p.1/\(j < i\/(j=i/\b=true/\p.2.1=nm))/\((p.2.1=nm/\(p.2.2=vf ((j:Int)+1)\/p.2.2=iO "behind" j\/p.2.2=iO "shut" j))\/(p.2.1=ot/\(p.2.2=oO nm\/p.2.2=oP nm)))
 nd:(bk.map dY).Nodup
 aX:bk.length<=2 * i+(if b=true then 1 else 0)
theorem jL.ent {bk:Bk}{b:Bool} (h:jL H db kvs bk ks nm ot i b) (k8:ks.length<=8) (hn:Nm nm):∀p∈bk,Ent p.2.2:=fun p hp=>by
 obtain⟨j,hj,_,h⟩:=h.en p hp;have:=(cu.mp hj).1;exact wq (i:=j) (by omega) hn h
theorem jL.keep {bk:Bk}{b:Bool} (h:jL H db kvs bk ks nm ot i b) (k8:ks.length<=8) (hn:Nm nm) (k:∀b o,(∃xs,o=HO.tup xs)\/b=db->H b=some o->H' b=some o):jL H' db kvs bk ks nm ot i b:=⟨k _ _ (.inr rfl) h.hd,h.dv.keep (fun b xs e=>k _ _ (.inl ⟨_,rfl⟩) e) (h.ent k8 hn),h.en,h.nd,h.aX⟩
theorem jL.put {kt:Addr}{bk:Bk}{n:Str}{b b':Bool}{d:PyData} (h:jL H db kvs bk ks nm ot i b) (k8:ks.length<=8) (kn:ks.Nodup) (hn:Nm nm) (hi:i < ks.length) (rv:Rep H v d) (ok:(n=nm/\(d=vf ((i:Int)+1)\/d=iO "behind" i\/d=iO "shut" i))\/(n=ot/\(d=oO nm\/d=oP nm)))
  (new:b=true->n≠nm):bo kvs [Sum.inr ks[i],Sum.inr n]=none /\ ∀i' b',(i'=i/\b'=true/\b=false/\n=nm)\/i'=i+1/\b'=false->jL (upd H db (.dT (kvs ++ [([Sum.inr ks[i],Sum.inr n],v)]))) db (kvs ++ [([Sum.inr ks[i],Sum.inr n],v)]) (bk ++ [(ks[i],n,d)]) ks nm ot i' b':=by
 have e:=wq (i:=i) (by omega) hn ok
 have gq : [ks[i],n] ∉ bk.map dY:=fun hm=>by
  obtain⟨p0,yo,e⟩:=br.mp hm;have e1:p0.1=ks[i]:=by injection e
  have e2:p0.2.1=n:=by injection e with _ z;injection z
  obtain⟨j,hj,hc,_⟩:=h.en p0 yo;rw[e1]at hj;have ej:j=i:=(Ln (cu.mp hj).1 kn).mp (hj.trans (b4 hi).symm);rcases hc with z|⟨_,z1,z2⟩
  ·omega
  ·exact new z1 (e2.symm.trans z2)
 refine⟨?_,fun i' b' hc=>?_⟩
 ·rcases h.dv.val (k:=ks[i]) (n:=n) with⟨z,_⟩|⟨v,d',_,z2,_⟩
  ·exact z
  ·exact absurd (br.mpr ⟨_,z2,rfl⟩) gq
 ·have ut:∀ {zs:List (List Key×V)} b xs,H b=some (.tup xs)->upd H db (.dT zs) b=some (.tup xs):=fun b xs e=>by rw[ag (ao e h.hd (by intro z;cases z))];exact e
  refine⟨af,d4.snoc (e.keep rv ut) (h.dv.keep ut (h.ent k8 hn)),fun p hp=>?_,?_,?_⟩
  ·rcases ee.mp hp with y|y
   ·obtain⟨j,hj,hl,hh⟩:=h.en p y
    refine⟨j,hj,?_,hh⟩;rcases hc with⟨r1,r2,r3,_⟩|⟨r1,_⟩
    ·rcases hl with z|⟨_,z,_⟩
     ·exact .inl (by omega)
     ·rw[r3]at z;cases z
    ·rcases hl with z|⟨z,_⟩
     ·exact .inl (by omega)
     ·exact .inl (by omega)
   ·rw[dH.mp y]
    refine⟨i,b4 hi,?_,ok⟩;rcases hc with⟨r1,r2,_,r4⟩|⟨r1,_⟩
    ·exact .inr ⟨r1.symm,r2,r4⟩
    ·exact .inl (by omega)
  ·rw[bB]
   exact g9.mpr ⟨h.nd,by simp,fun u hu v hv y=>gq (by have hv:v = [ks[i],n]:=dH.mp hv;rw[<-hv,<-y];exact hu)⟩
  ·have:=h.aX
   rw[dz,sR];rcases hc with⟨r1,r2,r3,_⟩|⟨r1,r2⟩
   ·rw[r1,r2,ax rfl];rw[r3,aj cw]at this;omega
   ·rw[r1,r2,aj cw]
    split at this <;> omega
inductive Bt (vs:List V) (H:Hp) (Q:VK) (E:XK):Prop
 |mk {p lk:Addr}{ks:List Str}{nm ot:Str} (_:vs = [.ref p,.ref lk,.str nm,.str ot]) (_:iz p H) (_:H lk=some (.lst (ks.map V.str))) (_:ks.Nodup) (_:ks.length<=8) (_:Nm nm) (_:Nm ot) (_:nm≠ot) (_:∀db kvs bk H',bU p H H'->H db=none->H' db=some (.dT kvs)->d4 H' kvs bk->km ks nm ot bk->Q (.ref db) H'):Bt vs H Q E
abbrev Kc:List Str:= ["_law_pot_here","_law_kinds","_law_name","_law_other"]
abbrev nMk:List Str:= ["_law_pot_here","_law_kinds","_law_name","_law_other","_law_book","_law_k","_law_way","_law_steps"]
theorem xu:bF nMk Kc (aI EH):=bV (by decide +kernel)
theorem acZ {dD:FuncData} (F:aY K "_law_marked" "_law_marked" EH f fd) (B:gV mg) (GD:dq P w K mg base aO 1 fD dD ["_law_pot_here","_law_many"] qW "_law_digit"):aS P w K mg base aO 2 f fd Kc Bt:=by
 refine F.ok xu (fun vs H Q E h=>?_) (fun aH A outer s H vs Q E hr h=>?_)
 ·obtain⟨rfl,_⟩:=h;rfl
 ·obtain @⟨p,lk,ks,nm,ot,rfl,pk,sC,knd,k8,gX,yO,yP,q⟩:=h
  have bZ:bb 1 _:=hr;have bO:=iE hr.units;refine⟨_,aA (ba (i:=4) xu.nd rfl (Or.inl rfl) D8)
   (aA (jR iR rfl (qO rfl B.range (ae (fZ tq rfl B.len vz (ae (pv 1) ah)) ah)) (bp (i:=5) xu.nd rfl (Or.inl rfl))
    (aA (ba (i:=6) xu.nd rfl (Or.inl rfl) (cQ GD bZ (ae (pv 0) (ae ay ah))))
    (aA (ba (i:=7) xu.nd rfl (Or.inl rfl) (bJ (ae (bJ (ae b9 ah)) (ae (bJ (ae b9 (ae ay ah))) (ae (bJ (ae b9 (ae (cH lr (pv 5) ay) ah))) ah)))))
    (aA (cf (bK ly (pv 6) ay (bQ _)) (aG (lq bO (pv 4) (bJ (ae (a6 fJ (pv 1) (pv 5) (fun _ _=>rfl)) (ae (pv 2) ah))) (bJ (ae b9 (ae (cH lr (pv 5) ay) ah))) rfl))
     (aG (cf (bK Ao (pv 6) ay (bQ _)) (aG (lq bO (pv 4) (bJ (ae (a6 fJ (pv 1) (pv 5) (fun _ _=>rfl)) (ae (pv 2) ah))) (bJ (ae (a6 fJ (dQ (ae b9 (ae b9 ah))) (cH qZ (pv 6) ay) (fun _ _=>rfl)) (ae (pv 7) ah))) rfl)) cO)))
    (aG (cf (bK ly (cQ GD bZ (ae (pv 0) (ae ay ah))) ay (bQ _)) (aG (lq bO (pv 4) (bJ (ae (a6 fJ (pv 1) (pv 5) (fun _ _=>rfl)) (ae (pv 3) ah))) (a6 fJ (dQ (ae (bJ (ae b9 (ae (pv 2) (ae ay ah)))) (ae (bJ (ae b9 (ae (bJ (ae (bJ (ae b9 (ae (pv 2) ah))) ah)) ah))) ah))) (cQ GD bZ (ae (pv 0) (ae ay ah))) (fun _ _=>rfl)) rfl)) cO))))))
   (aG (bz (pv 4)))),?_⟩
  intro db cN;have u7:p≠db:=pk.ne cN;have S0:=ar (o:= .dT []) cN;have P0:=(bU.refl pk).new (o:= .dT []) cN;have h0:upd H db (.dT []) db=some (.dT []):=af;have Gz:=S0 _ _ sC;generalize upd H db (.dT [])=H0 at S0 P0 h0 Gz ⊢;have Kd:lk≠p:=pq pk sC;have Ke:lk≠db:=aq sC cN;refine⟨_,rfl,lk,_,rfl,.inl (ak.of Gz),_,rfl,?_⟩;rw[aJ];refine⟨by omega,by omega,vE (fun i σ H1=>∃ (kvs:List (List Key×V)) (bk:Bk) (v5 v6 v7:Option V),σ = [some (.ref p),some (.ref lk),some (.str nm),some (.str ot),some (.ref db),v5,v6,v7]/\bU p H H1/\H1 lk=some (.lst (ks.map V.str))/\jL H1 db kvs bk ks nm ot i false)
   ⟨[],[],none,none,none,rfl,P0,Gz,⟨h0,.nil,fun x hx=>(by cases hx),jl,bf _⟩⟩ ?_ ?_⟩
  ·rintro i σ H1 hi ⟨kvs,bk,v5,v6,v7,rfl,P1,l1,m1⟩
   have cD:i < ks.length:=by simpa using hi
   have ei:(0:Int)+(i:Int)=(i:Int):=by omega
   rw[ei];have Fz:∀ {G G':Hp}{kvs:List (List Key×V)}{bk:Bk}{b:Bool},iz p G->bU p G G'->jL G db kvs bk ks nm ot i b->jL G' db kvs bk ks nm ot i b:=fun ok pa m=>m.keep k8 gX fun b o hb e=>pa.kp _ _ e (by
    rcases hb with⟨xs,rfl⟩|rfl
    ·obtain⟨x,y,e0,_⟩:=ok;exact ao e e0 (by intro z;cases z)
    ·exact aN u7)
   have wN:∀ {G G':Hp}{kvs:List (List Key×V)}{bk:Bk}{b:Bool},aB G G'->jL G db kvs bk ks nm ot i b->jL G' db kvs bk ks nm ot i b:=fun s m=>m.keep k8 gX fun b o _ e=>s _ _ e;refine⟨_,rfl,kC (p:=p) (m:=7) P1.ok (by decide) (by decide) fun way H2 a0 a1 p2=>?_⟩
   have P2:=P1.trans p2;have l2:=p2.kp _ _ l1 Kd;have m2:=Fz P1.ok p2 m1;refine⟨gI,fun c1 h1=>⟨cJ,fun c2 h2=>⟨_,rfl,_,_,rfl,rfl,cJ,fun c3 h3=>⟨kQ,fun c4 h4=>?_⟩⟩⟩⟩;have Sa:=ar (o:= .tup [V.str "onward"]) h1;have Sb:=ar (o:= .tup [V.str "times",.int 9]) h2;have Sc:=ar (o:= .tup [V.str "add",.int ((i:Int)+1)]) h3;have Sd:=ar (o:= .tup [V.ref c1,.ref c2,.ref c3]) h4;have S3:=Sa.trans (Sb.trans (Sc.trans Sd));have rs:cP (upd (upd (upd (upd H2 c1 (.tup [V.str "onward"])) c2 (.tup [V.str "times",.int 9])) c3 (.tup [V.str "add",.int ((i:Int)+1)])) c4 (.tup [V.ref c1,.ref c2,.ref c3])) [V.ref c1,.ref c2,.ref c3] [.tuple [.str "onward"],.tuple [.str "times",.int 9],.tuple [.str "add",.int ((i:Int)+1)]]:=
    .cons (.tup (Sd _ _ (Sc _ _ (Sb _ _ af))) (.cons (.str _) .nil)) (.cons (.tup (Sd _ _ (Sc _ _ af)) (.cons (.str _) (.cons (.int _) .nil))) (.cons (.tup (Sd _ _ af) (.cons (.str _) (.cons (.int _) .nil))) .nil))
   have sr:upd (upd (upd (upd H2 c1 (.tup [V.str "onward"])) c2 (.tup [V.str "times",.int 9])) c3 (.tup [V.str "add",.int ((i:Int)+1)])) c4 (.tup [V.ref c1,.ref c2,.ref c3]) c4=some (.tup [V.ref c1,.ref c2,.ref c3]):=af;generalize upd (upd (upd (upd H2 c1 (.tup [V.str "onward"])) c2 (.tup [V.str "times",.int 9])) c3 (.tup [V.str "add",.int ((i:Int)+1)])) c4 (.tup [V.ref c1,.ref c2,.ref c3])=H3 at S3 rs sr ⊢;have P3:=P2.trans (nM P2.ok S3);have l3:=S3 _ _ l2;have m3:=wN S3 m2;have Kf:cZ (ks.map V.str) (i:Int)=some (V.str ks[i]):=gg (by rw[jk,b4 cD];rfl)
   refine QT (iF:=fun H6=>∃ (kvs:List (List Key×V)) (bk:Bk) (b:Bool),bU p H H6/\H6 lk=some (.lst (ks.map V.str))/\jL H6 db kvs bk ks nm ot i b) (fun last=>⟨_,rfl,rfl,_,rfl,c7 (fun e=>?_) (fun e=>⟨_,rfl,_,_,rfl,rfl,_,rfl,c7 (fun e2=>?_) (fun e2=>last H3 ⟨kvs,bk,false,P3,l3,m3⟩)⟩)⟩) ?_
   ·refine⟨_,rfl,_,_,rfl,rfl,cJ,fun te Kg=>?_⟩
    have Se:=ar (o:= .tup [V.str "plain",.int ((i:Int)+1)]) Kg;have he:upd H3 te (.tup [V.str "plain",.int ((i:Int)+1)]) te=some (.tup [V.str "plain",.int ((i:Int)+1)]):=af;generalize upd H3 te (.tup [V.str "plain",.int ((i:Int)+1)])=H4 at Se he ⊢;refine⟨_,rfl,_,rfl,_,rfl,lk,_,(i:Int),_,rfl,rfl,ak.of (Se _ _ l3),Kf,_,rfl,cJ,fun kt jf=>?_⟩;have Sk:=ar (o:= .tup [V.str ks[i],V.str nm]) jf;have jK:upd H4 kt (.tup [V.str ks[i],V.str nm]) kt=some (.tup (([Sum.inr ks[i],Sum.inr nm]:List Key).map kV)):=af;generalize upd H4 kt (.tup [V.str ks[i],V.str nm])=H5 at Sk jK ⊢;have oR:=Se.trans Sk;have m5:=wN oR m3;have aX:=m5.aX;have dl:=m5.dv.length;obtain⟨yQ,put⟩:=m5.put (v:= .ref te) (n:=nm) (d:=vf ((i:Int)+1)) (kt:=kt) (b':=true) k8 knd gX cD (.tup (Sk _ _ he) (.cons (.str _) (.cons (.int _) .nil))) (.inl ⟨rfl,.inl rfl⟩) (fun z=>by cases z)
    refine⟨db,_,rfl,hZ.t (k:= [Sum.inr ks[i],Sum.inr nm]) m5.hd jK (by rw[aT];simp only[oZ,ir]at aX;omega),?_⟩
    rw[qT _ yQ];exact last _ ⟨_,_,true,(P3.trans (nM P3.ok oR)).write cN u7,by rw[ag Ke];exact oR _ _ l3,put i true (.inl ⟨rfl,rfl,rfl,rfl⟩)⟩
   ·have aoB:1 < way:=iQ e2
    refine⟨cJ,fun lp JM=>?_⟩;have Sl:=ar (o:= .lst [V.str "behind",.str "shut"]) JM;have jd:upd H3 lp (.lst [V.str "behind",.str "shut"]) lp=some (.lst [V.str "behind",.str "shut"]):=af;generalize upd H3 lp (.lst [V.str "behind",.str "shut"])=Hl at Sl jd ⊢;obtain⟨tag,aex,x9⟩:∃tag:Str,(tag = "behind" \/ tag = "shut")/\cZ [V.str "behind",.str "shut"] (way % 2)=some (.str tag):=by
     rcases (by omega:way % 2=0\/way % 2=1) with z|z
     ·exact⟨"behind",.inl rfl,by rw[z];rfl⟩
     ·exact⟨"shut",.inr rfl,by rw[z];rfl⟩
    refine⟨_,rfl,_,_,rfl,rfl,(by show(0:Int) < 2;decide),lp,_,way % 2,_,rfl,rfl,ak.of jd,x9,_,rfl,cJ,fun te Kg=>?_⟩
    have Se:=ar (o:= .tup [V.str tag,.ref c4]) Kg;have he:upd Hl te (.tup [V.str tag,.ref c4]) te=some (.tup [V.str tag,.ref c4]):=af;generalize upd Hl te (.tup [V.str tag,.ref c4])=H4 at Se he ⊢;have Uk:=Sl.trans Se;refine⟨_,rfl,_,rfl,_,rfl,lk,_,(i:Int),_,rfl,rfl,ak.of (Uk _ _ l3),Kf,_,rfl,cJ,fun kt jf=>?_⟩;have Sk:=ar (o:= .tup [V.str ks[i],V.str nm]) jf;have jK:upd H4 kt (.tup [V.str ks[i],V.str nm]) kt=some (.tup (([Sum.inr ks[i],Sum.inr nm]:List Key).map kV)):=af;generalize upd H4 kt (.tup [V.str ks[i],V.str nm])=H5 at Sk jK ⊢;have oR:=Uk.trans Sk;have m5:=wN oR m3;have aX:=m5.aX;have dl:=m5.dv.length;have rv:Rep H5 (.ref te) (iO tag i):= .tup (Sk _ _ he) (.cons (.str _) (.cons (.tup (oR _ _ sr) (cP.same rs oR)) .nil));obtain⟨yQ,put⟩:=m5.put (v:= .ref te) (n:=nm) (d:=iO tag i) (kt:=kt) (b':=true) k8 knd gX cD rv (.inl ⟨rfl,.inr (aex.imp (fun z=>by rw[z]) (fun z=>by rw[z]))⟩) (fun z=>by cases z)
    refine⟨db,_,rfl,hZ.t (k:= [Sum.inr ks[i],Sum.inr nm]) m5.hd jK (by rw[aT];simp only[oZ,ir]at aX;omega),?_⟩
    rw[qT _ yQ];exact last _ ⟨_,_,true,(P3.trans (nM P3.ok oR)).write cN u7,by rw[ag Ke];exact oR _ _ l3,put i true (.inl ⟨rfl,rfl,rfl,rfl⟩)⟩
   ·rintro H6 ⟨kvs,bk,b,P6,l6,m6⟩
    refine⟨_,rfl,kC (p:=p) (m:=3) P6.ok (by decide) (by decide) fun n H7 n0 n1 p7=>⟨rfl,_,rfl,?_⟩⟩
    have P7:=P6.trans p7;have l7:=p7.kp _ _ l6 Kd;have m7:=Fz P6.ok p7 m6;refine c7 (fun e=>?_) (fun e=>?_)
    ·refine⟨_,rfl,kQ,fun ca hca=>⟨_,rfl,cJ,fun cb hcb=>⟨gI,fun cc BM=>⟨cJ,fun cd fg=>⟨cJ,fun ce Jv=>?_⟩⟩⟩⟩⟩
     have Sa:=ar (o:= .tup [V.str "ahead",.str nm,.int 0]) hca;have Sb:=ar (o:= .tup [V.str "ask",.str nm]) hcb;have Sc:=ar (o:= .tup [V.ref cb]) BM;have Sd:=ar (o:= .tup [V.str "behind",.ref cc]) fg;have Se:=ar (o:= .lst [V.ref ca,.ref cd]) Jv;have S8:=Sa.trans (Sb.trans (Sc.trans (Sd.trans Se)));have r1:Rep (upd (upd (upd (upd (upd H7 ca (.tup [V.str "ahead",.str nm,.int 0])) cb (.tup [V.str "ask",.str nm])) cc (.tup [V.ref cb])) cd (.tup [V.str "behind",.ref cc])) ce (.lst [V.ref ca,.ref cd])) (.ref ca) (oO nm):= .tup (Se _ _ (Sd _ _ (Sc _ _ (Sb _ _ af)))) (.cons (.str _) (.cons (.str _) (.cons (.int _) .nil)));have r2:Rep (upd (upd (upd (upd (upd H7 ca (.tup [V.str "ahead",.str nm,.int 0])) cb (.tup [V.str "ask",.str nm])) cc (.tup [V.ref cb])) cd (.tup [V.str "behind",.ref cc])) ce (.lst [V.ref ca,.ref cd])) (.ref cd) (oP nm):= .tup (Se _ _ af) (.cons (.str _) (.cons (.tup (Se _ _ (Sd _ _ af)) (.cons (.tup (Se _ _ (Sd _ _ (Sc _ _ af))) (.cons (.str _) (.cons (.str _) .nil))) .nil)) .nil));have GH:upd (upd (upd (upd (upd H7 ca (.tup [V.str "ahead",.str nm,.int 0])) cb (.tup [V.str "ask",.str nm])) cc (.tup [V.ref cb])) cd (.tup [V.str "behind",.ref cc])) ce (.lst [V.ref ca,.ref cd]) ce=some (.lst [V.ref ca,.ref cd]):=af;generalize upd (upd (upd (upd (upd H7 ca (.tup [V.str "ahead",.str nm,.int 0])) cb (.tup [V.str "ask",.str nm])) cc (.tup [V.ref cb])) cd (.tup [V.str "behind",.ref cc])) ce (.lst [V.ref ca,.ref cd])=H8 at S8 r1 r2 GH ⊢;have P8:=P7.trans (nM P7.ok S8);have l8:=S8 _ _ l7;have m8:=wN S8 m7;refine⟨_,rfl,kC (p:=p) (m:=2) P8.ok (by decide) (by decide) fun z H9 z0 z1 p9=>?_⟩
     have npe:ce≠p:=by obtain⟨x,y,e0,_⟩:=P8.ok;exact ao GH e0 (by intro z;cases z)
     have P9:=P8.trans p9;have l9:=p9.kp _ _ l8 Kd;have m9:=Fz P8.ok p9 m8;have e9:=p9.kp _ _ GH npe;have r19:=(wq (i:=i) (n:=ot) (ot:=ot) (by omega) gX (.inr ⟨rfl,.inl rfl⟩):Ent (oO nm)).keep r1 (EI P8.ok p9)
     have r29:=(wq (i:=i) (n:=ot) (ot:=ot) (by omega) gX (.inr ⟨rfl,.inr rfl⟩):Ent (oP nm)).keep r2 (EI P8.ok p9)
     obtain⟨te,de,Tw,x9,rv9⟩:∃ (te:Addr) (de:PyData),(de=oO nm\/de=oP nm)/\cZ [V.ref ca,.ref cd] z=some (.ref te)/\Rep H9 (.ref te) de:=by
      rcases (by omega:z=0\/z=1) with y|y
      ·exact⟨ca,_,.inl rfl,by rw[y];rfl,r19⟩
      ·exact⟨cd,_,.inr rfl,by rw[y];rfl,r29⟩
     refine⟨ce,_,z,_,rfl,rfl,ak.of e9,x9,_,rfl,_,rfl,_,rfl,lk,_,(i:Int),_,rfl,rfl,ak.of l9,Kf,_,rfl,cJ,fun kt jf=>?_⟩;have Sk:=ar (o:= .tup [V.str ks[i],V.str ot]) jf;have jK:upd H9 kt (.tup [V.str ks[i],V.str ot]) kt=some (.tup (([Sum.inr ks[i],Sum.inr ot]:List Key).map kV)):=af;generalize upd H9 kt (.tup [V.str ks[i],V.str ot])=kM at Sk jK ⊢;have CT:=wN Sk m9;have aX:=CT.aX;have dl:=CT.dv.length;obtain⟨yQ,put⟩:=CT.put (v:= .ref te) (n:=ot) (d:=de) (kt:=kt) (b':=true) k8 knd gX cD (rv9.same Sk) (.inr ⟨rfl,Tw⟩) (fun _ y=>yP y.symm);refine⟨db,_,rfl,hZ.t (k:= [Sum.inr ks[i],Sum.inr ot]) CT.hd jK (by rw[aT];split at aX <;> omega),?_⟩
     rw[qT _ yQ];exact⟨_,_,_,_,_,rfl,(P9.trans (nM P9.ok Sk)).write cN u7,by rw[ag Ke];exact Sk _ _ l9,put (i+1) false (.inr ⟨rfl,rfl⟩)⟩
    ·refine⟨kvs,bk,_,_,_,rfl,P7,l7,⟨m7.hd,m7.dv,fun x hx=>?_,m7.nd,?_⟩⟩
     ·obtain⟨j,hj,hc,hh⟩:=m7.en x hx
      exact⟨j,hj,.inl (by rcases hc with z|⟨z,_⟩ <;> omega),hh⟩
     ·have:=m7.aX
      simp only[oZ,ir];split at this <;> omega
  ·rintro σ H1 ⟨kvs,bk,v5,v6,v7,rfl,P1,l1,m1⟩
   refine⟨_,rfl,q db kvs bk H1 P1 cN m1.hd m1.dv ⟨fun x hx=>?_,m1.nd,?_⟩⟩
   ·obtain⟨j,hj,_,hh⟩:=m1.en x hx
    exact⟨j,hj,hh⟩
   ·have:=m1.aX
    simp only[oZ,ir,oX]at this;omega
section
variable{bk gD:Bk}
theorem km.perm (p:gD.Perm bk) (h:km ks nm ot bk):km ks nm ot gD:=⟨fun x hx=>h.en x (p.mem_iff.mp hx),(p.map dY).nodup_iff.mpr h.nd,by rw[p.length_eq];exact h.aX⟩
theorem km.Q7 (h:km ks nm ot bk) (k8:ks.length<=8) (jC:∀x∈ks,Nm x) (hn:Nm nm) (ho:Nm ot):mH bk:=by
 refine⟨fun p hp=>?_,fun p hp=>?_,h.nd,fw h.aX (by decide)⟩
 ·obtain⟨i,hi,hc⟩:=h.en p hp
  refine⟨jC _ (kX hi),?_⟩;rcases hc with⟨z,_⟩|⟨z,_⟩
  ·rw[z];exact hn
  ·rw[z];exact ho
 ·obtain⟨i,hi,hc⟩:=h.en p hp
  have:=(cu.mp hi).1;exact wq (i:=i) (by omega) hn hc
theorem km.wok (h:km ks nm ot bk) (k8:ks.length<=8) (jC:∀x∈ks,Nm x) (hn:Nm nm) (ho:Nm ot) (l8:line.length<=8) (jJ:∀k∈line,k∈ks):mX ⟨line,bk,[]⟩ [nm,ot]:=by
 refine⟨h.Q7 k8 jC hn ho,fun p hp s hs ht=>?_,fun n pV=>?_,by show 2<=20;decide,Di l8,fun k hk=>jC _ (jJ _ hk)⟩
 ·obtain⟨i,hi,hc⟩:=h.en p hp
  rcases hc with⟨_,z|z|z⟩|⟨_,z|z⟩
  ·rw[z]at hs
   rw[dH.mp hs]at ht;exact absurd ht (by show("add" : Str) ≠ "ask"; decide)
  ·rw[z]at hs
   simp only[iO,iA,bj,jm,jn]at hs;rcases hs with y|y|y <;> rw[y]at ht
   ·exact absurd ht (by show("onward" : Str) ≠ "ask"; decide)
   ·exact absurd ht (by show("times" : Str) ≠ "ask"; decide)
   ·exact absurd ht (by show("add" : Str) ≠ "ask"; decide)
  ·rw[z]at hs
   simp only[iO,iA,bj,jm,jn]at hs;rcases hs with y|y|y <;> rw[y]at ht
   ·exact absurd ht (by show("onward" : Str) ≠ "ask"; decide)
   ·exact absurd ht (by show("times" : Str) ≠ "ask"; decide)
   ·exact absurd ht (by show("add" : Str) ≠ "ask"; decide)
  ·rw[z]at hs
   simp only[oO,iA,bj,jm,jn]at hs;rcases hs with y|y
   ·rw[y];exact aW
   ·rw[y]at ht;exact absurd ht (by show("add" : Str) ≠ "ask"; decide)
  ·rw[z]at hs
   simp only[oP,iA,bj,jm,jn]at hs;rw[hs];exact aW
 ·simp only[bj,jm,jn]at pV
  rcases pV with z|z
  ·rw[z];exact hn
  ·rw[z];exact ho
theorem M1 (p:gD.Perm bk) (nd:(bk.map dY).Nodup) (n:Str):∀r:List Str,cC gD ks n r=cC bk ks n r
 |[]=>rfl
 |k::r=>by
  unfold cC;rw[LO p nd,M1 p nd n r]
theorem Em (k8:ks.length<=8) {n:Str}:∀ {r:List Str},(∀k∈r,k∈ks) -> ∀d∈cC bk ks n r,1<=d/\d<=8
 |[],_,d,hd=>by cases hd
 |k::r,h,d,hd=>by
  have ih:=Em k8 (n:=n) (r:=r) fun x hx=>h x (bq _ hx);have hk:ks.idxOf k < ks.length:=Lw.mpr (h k aW);unfold cC at hd;cases e:cy bk k n with
  |none=>rw[e]at hd;exact ih d hd
  |some y =>
   rw[e]at hd;rcases bj.mp hd with z|z
   ·omega
   ·split at z
    ·cases z
    ·exact ih d z
theorem NL (n:Str) (r:List Str):(cC bk ks n r).length<=r.length:=by rw[<-z8];exact El r
theorem ac0 (k8:ks.length<=8) (nd:line.Nodup) (jJ:∀k∈line,k∈ks):line.length<=8:=
 fw (len_sub nd jJ) k8
theorem Zx {b:Str}:∀y∈cB line b,y∈line:=fun y hy=>by
 unfold cB at hy;split at hy
 ·exact hy
 ·exact Dp hy
theorem Zy (line:List Str) (b:Str):(cB line b).length<=line.length:=by
 unfold cB;split
 ·exact aP _
 ·rw[vn];omega
theorem XD (line:List Str) (b:Str):∃l,line=l++cB line b:=by
 unfold cB;split
 ·exact⟨[],rfl⟩
 ·exact⟨_,(VD _ _).symm⟩
def GJ (nm:Str) (ds:List Nat):Rs:=if ds = [] then .miss nm else .told (eP ds)
theorem Oq (mb:km ks nm ot bk) (kn:ks.Nodup) (ne:nm≠ot) (oQ:line.Nodup) (le:∀k∈line,k ≠ "") (b:Str):aZ.Out ⟨line,bk,[]⟩ (nm,b) (GJ nm (cC bk ks nm (cB line b))):=by
 obtain⟨l,hl⟩:=XD line b;obtain⟨h1,h2⟩:=Zw mb kn ne oQ le _ l (cB line b) (nm,b) rfl hl rfl rfl;unfold GJ;split
 ·rename_i z;exact h1 z
 ·rename_i z;exact h2 z
theorem Zz (mb:km ks nm ot bk) (kn:ks.Nodup) (ne:nm≠ot) (oQ:line.Nodup) (le:∀k∈line,k ≠ ""):aZ.Out ⟨line,bk,[]⟩ (ot,"") (if ck bk ot line=none then .miss ot else GJ nm (cC bk ks nm line)):=by
 obtain⟨h1,h2⟩:=Yv mb ne (line:=line);split
 ·rename_i z;exact h1 z
 ·rename_i z;exact h2 z _ (Oq mb kn ne oQ le "")
def oS (bk:Bk) (n:Str) (line:List Str):List Str:=line.filter fun k=>(cy bk k n).isSome
theorem Ot {n:Str}:∀ {line:List Str},oS bk n line = [] ↔ ck bk n line=none
 |[]=>⟨fun _=>rfl,fun _=>rfl⟩
 |k::r=>by
  unfold oS ck;rw[Dm];cases e:cy bk k n with
  |none=>exact Ot (line:=r)
  |some d=>simp
end
abbrev Bu:List Str:= ["_law_script","_law_pot_here","_law_kinds","_law_family_here","_law_lines","_law_name","_law_other","_law_book","_law_triples","_law_called_here","_law_things","_law_world","_law_thing","_law_kind","_law_own","_law_line_here","_law_behind","_law_due_here","_law_told_here","_law_where"]
theorem eR:bF Bu ["_law_script"] (aI n9):=bV (by decide +kernel)
abbrev aey:Expr:=iX (cG (bH n9) 10)
theorem Pk:cK Bu (aI n9) ["_law_thing","_law_kinds","_law_pot_here"] [none,some 2,some 1] (eg aey):=gi (by decide +kernel)
abbrev lW:List Stmt:=zX (cG (bH n9) 12)
abbrev aez:Expr:=iX (cG lW 3)
theorem Pn:cK Bu (aI n9) ["_law_one","_law_other","_law_book"] [none,some 6,some 7] (eg aez):=gi (by decide +kernel)
abbrev aeA:Expr:=kG (kG (iX (cG (bH n9) 7)))
theorem AJ:cK Bu (aI n9) ["_law_kind","_law_one","_law_entry"] [none,none,none] (eg aeA):=gi (by decide +kernel)
theorem Tells.or {t u:TT}{a b:Bool} (h:Tells t σ H a) (k:a=false -> ∀H1,aB H H1->Tells u σ H1 b):Tells (Iy t u) σ H (a || b):=fun R q=>h _ fun H1 S1=>by
 cases a with
 |true=>exact q _ S1
 |false=>exact k rfl H1 S1 R fun H2 S2=>q _ (S1.trans S2)
theorem NM (h:ak K H a xs) (s:aB H H'):ak K H' a xs:=by
 rcases h with(h|⟨o,h⟩)|h
 ·exact .inl (.inl (s _ _ h))
 ·exact .inl (.inr ⟨o,s _ _ h⟩)
 ·exact .inr h
theorem Bv {H3:Hp} (S:aB H1 H2) (hp:H1 p=none) (pa:bU p H2 H3):aB H1 H3:=fun b u e=>pa.kp _ _ (S _ _ e) (aq e hp)
theorem E9 {k:Int}{Q:VK}{E:XK} (h:ak K H a (ns.map V.int)) (k0:0<=k) (k1:k<=100) (hl:ns.length<=63) (q:∀p H',H p=none->iz p H'->aB H H'->Q (.ref p) H'):AA K [.ref a,.int k] H Q E:=⟨rfl,h,k0,k1,hl,fun p x y hp x0 y0 y1=>q p _ hp ⟨x,y,af,x0,y0,y1⟩ (ar hp)⟩
theorem aeB {G:Prop}{iF C:St->Hp->Prop} (h1:(∀σ H6,iF σ H6->C σ H6)->G) (h2:∀σ H6,iF σ H6->C σ H6):G:=h1 h2
structure LI (H:Hp) (lk d1 db wd t tb tt lt:Addr) (ks:List Str) (dc:List (Key×V)) (L:Str->List Str) (kvs:List (List Key×V)) (bk:Bk) (wt:List V) (aU:List Th) (o:Obj) (ws wb:List V) (aQ:List (Str×List Str)) (gD:Bk):Prop where
 hk:H lk=some (.lst (ks.map V.str))
 h1:H d1=some (.dK dc)
 l1:∀x∈ks,gv H dc L x
 hd:H db=some (.dT kvs)
 dv:d4 H kvs bk
 hl:H lt=some (.lst wt)
 wd:oN H wd t tb tt wt aU
 fb:FB H t tb o ws wb aQ L gD
theorem LI.same {lk d1 wd t tb lt:Addr}{dc:List (Key×V)}{bk:Bk}{aU:List Th}{gD:Bk} (h:LI H lk d1 db wd t tb tt lt ks dc L kvs bk wt aU o ws wb aQ gD) (S:aB H H'):LI H' lk d1 db wd t tb tt lt ks dc L kvs bk wt aU o ws wb aQ gD:=⟨S _ _ h.hk,S _ _ h.h1,fun x hx=>(h.l1 x hx).same S,S _ _ h.hd,h.dv.same S,S _ _ h.hl,h.wd.same S,h.fb.same S⟩
def nU (l:List Nat):List PyData:=l.map fun d:Nat=>PyData.int (d:Int)
theorem ints_rep (H:Hp):∀l:List Nat,cP H (fc l) (nU l)
 |[]=>.nil
 |d::l=>.cons (.int _) (ints_rep H l)
theorem NN:∀l:List Nat,PyData.canLayAll0 (nU l)=true
 |[]=>rfl
 |d::l=>by show(true && PyData.canLayAll0 (nU l))=true;rw[NN l];rfl
theorem NO:∀l:List Nat,PyData.depthAll (nU l)=0
 |[]=>rfl
 |d::l=>by show max 0 (PyData.depthAll (nU l))=0;rw[NO l];rfl
theorem z9 {r:Addr}{l:List Nat} (h:H r=some (.lst (fc l))):Rep H (.ref r) (.list (nU l))/\(PyData.list (nU l)).canLay0=true/\(PyData.list (nU l)).depth<=60:=⟨.lst h (ints_rep H l),NN l,by simp[PyData.depth,NO]⟩
theorem NP:∀l:List Str,PyData.depthAll (l.map PyData.str)=0
 |[]=>rfl
 |d::l=>by show max 0 (PyData.depthAll (l.map PyData.str))=0;rw[NP l];rfl
theorem Ou {r:Addr}{l:List Str} (hl:∀x∈l,Nm x) (h:H r=some (.lst (l.map V.str))):Rep H (.ref r) (.list (l.map PyData.str))/\(PyData.list (l.map PyData.str)).canLay0=true/\(PyData.list (l.map PyData.str)).depth<=60:=⟨.lst h (zO H l),zP hl,by simp[PyData.depth,NP]⟩
def wO (n:Str):PyData:= .tuple [.str "missing",.str n]
theorem ZA {n:Str} (hn:Nm n):(wO n).canLay0=true/\(wO n).depth<=60:=⟨by show(PyData.strOk "missing" && (PyData.strOk n && true))=true;rw[AB hn];decide +kernel,by simp[wO,PyData.depth,PyData.depthAll]⟩
theorem Aa {c:Addr} (h:H c=some (.lst [])):Rep H (.ref c) (.list []):= .lst h .nil
def ku {α:Type}:List α->Bool | []=>true|_=>false
theorem NQ (l:List Nat):PyData.eqv (.list (nU l)) (.list [])=ku l:=by cases l <;> rfl
theorem strs_nil (l:List Str):PyData.eqv (.list (l.map PyData.str)) (.list [])=ku l:=by cases l <;> rfl
section
variable{r:Addr}{l:List Nat}{ss:List Str}
theorem Po (hs:σ[i]? = some (some (.ref r))) (h:H r=some (.lst (fc l))):Tells (nT (j5 AS (hX i) (wV pL))) σ H (ku l):=fun R k=>by
 refine⟨_,hs,bf _,fun c hc=>?_⟩;have h':=(ar (o:= .lst []) hc) _ _ h;obtain⟨a1,a2,a3⟩:=z9 h';refine⟨_,_,a1,Aa af,a2,rfl,a3,_,rfl,?_⟩;rw[NQ];exact k _ (ar hc)
theorem Pp (hs:σ[i]? = some (some (.ref r))) (h:H r=some (.lst (fc l))):Tells (nT (j5 uw (hX i) (wV pL))) σ H (!ku l):=fun R k=>by
 refine⟨_,hs,bf _,fun c hc=>?_⟩;have h':=(ar (o:= .lst []) hc) _ _ h;obtain⟨a1,a2,a3⟩:=z9 h';refine⟨_,_,a1,Aa af,a2,rfl,a3,_,rfl,?_⟩;rw[NQ];exact k _ (ar hc)
theorem ac1 (hn:∀x∈ss,Nm x) (hs:σ[i]? = some (some (.ref r))) (h:H r=some (.lst (ss.map V.str))):Tells (nT (j5 AS (hX i) (wV pL))) σ H (ku ss):=fun R k=>by
 refine⟨_,hs,bf _,fun c hc=>?_⟩;have h':=(ar (o:= .lst []) hc) _ _ h;obtain⟨a1,a2,a3⟩:=Ou hn h';refine⟨_,_,a1,Aa af,a2,rfl,a3,_,rfl,?_⟩;rw[strs_nil];exact k _ (ar hc)
theorem Pq (hn:∀x∈ss,Nm x) (hs:σ[i]? = some (some (.ref r))) (h:H r=some (.lst (ss.map V.str))):Tells (nT (j5 uw (hX i) (wV pL))) σ H (!ku ss):=fun R k=>by
 refine⟨_,hs,bf _,fun c hc=>?_⟩;have h':=(ar (o:= .lst []) hc) _ _ h;obtain⟨a1,a2,a3⟩:=Ou hn h';refine⟨_,_,a1,Aa af,a2,rfl,a3,_,rfl,?_⟩;rw[strs_nil];exact k _ (ar hc)
theorem FC {n:Str} (hn:Nm n) (hs:σ[i]? = some (some (.ref r))) (hj:σ[j]? = some (some (.str n))) (h:H r=some (.tup (resT (.miss n)))):Tells (nT (j5 uw (hX i) (PM (Ap (tC (V.str "missing")) (Ap (hX j) pL))))) σ H false:=fun R k=>by
 refine⟨_,hs,_,hj,cJ,fun c hc=>?_⟩;have h':=(ar (o:= .tup [V.str "missing",.str n]) hc) _ _ h;obtain⟨a2,a3⟩:=ZA hn;refine⟨wO n,wO n,.tup h' (.cons (.str _) (.cons (.str _) .nil)),.tup af (.cons (.str _) (.cons (.str _) .nil)),a2,a2,a3,_,rfl,?_⟩;rw[aol _ a2];exact k _ (ar hc)
theorem Pr (hd:∀d∈l,1<=d/\d<=8) (hl:l.length<=8) (hs:σ[i]? = some (some (.ref r))) (hj:σ[j]? = some (some (.ref q))) (h:H r=some (.tup (resT (.told (eP l))))) (hq:H q=some (.lst (fc l))) :
  Tells (Iy (nT (j5 RJ (j5 (AN K) (hX i) (tC (.int 0))) (tC (V.str "told")))) (nT (j5 uw (Aq xt [] E0 (Ap (j5 (AN K) (hX i) (tC (.int 1))) pL)) (hX j)))) σ H (false || false):= .or (fun R k=>⟨_,hs,r,_,0,_,rfl,rfl,aE.of h,gn,rfl,_,rfl,k _ (aB.refl _)⟩) fun _ H1 S1 R k=>⟨_,hs,r,_,1,_,rfl,rfl,aE.of (S1 _ _ h),iY,xt.mk rfl hd hl fun r3 H2 S2 h3=>by
 obtain⟨a1,a2,a3⟩:=z9 h3;obtain⟨b1,b2,b3⟩:=z9 (S2 _ _ (S1 _ _ hq));refine⟨_,hj,_,_,a1,b1,a2,b2,a3,_,rfl,?_⟩;rw[aol _ a2];exact k _ S2⟩
end
theorem DZ {t:TT}{ts te:TS}{D:L2.Ends}{rt:_}{bk:_}{ct:_}{b:Bool} (h:Tells t σ H b) (k:∀H1,aB H H1->if b=true then ts D σ H1 else te D σ H1):OR (Ends.mk (FJ t ts te D) rt bk ct) σ H:=h _ k
@[irreducible] def eT (k:Nat):List Stmt:=lW.drop k
theorem lb0:lW=eT 0:=by unfold eT;rfl
theorem lbA:eT 0=cG lW 0::eT 1:=by unfold eT;rfl
theorem lbB:eT 1=cG lW 1::eT 2:=by unfold eT;rfl
theorem lbC:eT 2=cG lW 2::eT 3:=by unfold eT;rfl
theorem lbD:eT 3=cG lW 3::eT 4:=by unfold eT;rfl
theorem lbE:eT 4=cG lW 4::eT 5:=by unfold eT;rfl
theorem lbF:eT 5=cG lW 5::eT 6:=by unfold eT;rfl
theorem lbG:eT 6=cG lW 6::eT 7:=by unfold eT;rfl
theorem lbH:eT 7 = [cG lW 7]:=by unfold eT;rfl
theorem abC {l l':List Stmt}{t:TS} (h:l=l') (p:ff X l' t):ff X l t:=h ▸ p
theorem rk {l l':List Stmt}{s:Stmt}{t u:TS} (h:l=s::l') (a:PS X s t) (b:ff X l' u):ff X l (Px t u):=by rw[h];exact aA a b
theorem abD {l:List Stmt}{s:Stmt}{t:TS} (h:l = [s]) (a:PS X s t):ff X l t:=by rw[h];exact aG a
inductive uv (K:Frag) (vs:List V) (H:Hp) (Q:VK) (E:XK):Prop
 |mk {a:Addr}{ns:List Int} (_:vs = [.ref a]) (_:ak K H a (ns.map V.int)) (_:ns.length<=63) (_:∀H',Q (.bl true) H'):uv K vs H Q E
theorem abE {fP fF fO fR:Addr}{dP dD dF dM dO:FuncData} (F:aY K "law" "law" n9 f fd) (B:gV mg) (B2:pO mg)
  (GP:dq P w K mg base aO 1 fP dP ["_law_script","_law_k"] (AA K) "_law_pot")
  (GD:dq P w K mg base aO 1 fD dD ["_law_pot_here","_law_many"] qW "_law_digit")
  (GN:dq P w K mg base aO 3 fN dN ["_law_pot_here","_law_many"] tZ "_law_names")
  (GF:dq P w K mg base aO 3 fF dF ["_law_pot_here","_law_kinds"] A0 "_law_family")
  (GM:dq P w K mg base aO 2 fM dM Kc Bt "_law_marked")
  (GO:dq P w K mg base aO 10 fO dO J7 xp "_law_told")
  (GE:dq P w K mg base aO 1 fE dE J8 xr "_law_due")
  (GR:dq P w K mg base aO 1 fR dR ["_law_number_here"] xt "_law_read") :
  aS P w K mg base aO 11 f fd ["_law_script"] (uv K):=by
 refine F.ok eR (fun vs H Q E h=>?_) (fun aH A outer s H vs Q E hr h=>?_)
 ·obtain⟨rfl,_⟩:=h;rfl
 ·obtain @⟨a,sc,rfl,hS,fQ,q⟩:=h
  have hu:=hr.units;have bO:=iE hu;have xv:bb 10 _:=hr;have mZ:bb 3 _:=xv.mono (by decide)
  have d6:bb 2 _:=xv.mono (by decide)
  have bZ:bb 1 _:=xv.mono (by decide)
  refine⟨_,aA (ba (i:=1) eR.nd rfl (Or.inr rfl) (cQ GP bZ (ae (pv 0) (ae ay ah))))
   (aA (ba (i:=2) eR.nd rfl (Or.inr rfl) (cQ GN mZ (ae (pv 1) (ae (cH lr ay (cQ GD bZ (ae (pv 1) (ae ay ah)))) ah))))
   (aA (qY (cQ GF mZ (ae (pv 1) (ae (pv 2) ah))) (pD rfl (eY (bp (i:=3) eR.nd rfl (Or.inl rfl)) (eY (bp (i:=4) eR.nd rfl (Or.inl rfl)) lj))))
   (aA (ba (i:=1) eR.nd rfl (Or.inr rfl) (cQ GP bZ (ae (pv 0) (ae ay ah))))
   (aA (qY (cQ GN mZ (ae (pv 1) (ae ay ah))) (aal (n:=2) rfl (eY (bp (i:=5) eR.nd rfl (Or.inl rfl)) (eY (bp (i:=6) eR.nd rfl (Or.inr rfl)) lj))))
   (aA (cf (PW.pt (pw_and (bK ly (cQ GD bZ (ae (pv 1) (ae ay ah))) ay (bQ _)) (pw_and1 (bK nR (pv 6) (a6 fJ (pv 2) ay (fun _ _=>rfl)) (bQ _)))))
    (aG (ba (i:=5) eR.nd rfl (Or.inl rfl) (a6 fJ (pv 2) ay (fun _ _=>rfl)))) cO)
   (aA (ba (i:=7) eR.nd rfl (Or.inr rfl) (cQ GM d6 (ae (pv 1) (ae (pv 2) (ae (pv 5) (ae (pv 6) ah))))))
   (aA (ba (i:=8) eR.nd rfl (Or.inl rfl) (aac (gF sX rfl B.tuple boot_tuple (ae (fZ LD rfl B2.sorted boot_sorted (ae
     (gM rfl AJ (Yk (pv 7)) (fun s H fp=>⟨Eh (n:=2) K rfl rfl (eY (Eh (n:=2) K rfl rfl (eY (bp (i:=0) AJ.nd rfl (Or.inl rfl)) (eY (bp (i:=1) AJ.nd rfl (Or.inl rfl)) lj))) (eY (bp (i:=2) AJ.nd rfl (Or.inl rfl)) lj)),hJ,bJ (ae (pv 0) (ae (pv 1) (ae (pv 2) ah)))⟩)) ah)) ah))))
   (aA (ba (i:=1) eR.nd rfl (Or.inr rfl) (cQ GP bZ (ae (pv 0) (ae ay ah))))
   (aA (ba (i:=9) eR.nd rfl (Or.inl rfl) (fZ Wu rfl B2.sorted boot_sorted (ae (cQ GN mZ (ae (pv 1) (ae ay ah))) ah)))
   (aA (tF rfl Pk eR.nd (i:=10) rfl rfl (gB (pv 9)) (fun s H fp=>⟨bp (i:=0) Pk.nd rfl (Or.inl rfl),hJ,bJ (ae (pv 0) (ae (a6 (zD K rfl) (pv 1) (iT GD.G bZ rfl GD.m GD.k GD.b .nil eF (ae (pv 2) (ae (fZ (Xj K rfl) rfl B.len vz (ae (pv 1) ah)) ah))) (fun _ _=>rfl)) (ae (bJ ah) ah)))⟩))
   (aA (ba (i:=11) eR.nd rfl (Or.inl rfl) (bJ (ae (pv 3) (ae (pv 8) (ae (gF sX rfl B.tuple boot_tuple (ae (pv 10) ah)) ah)))))
   (aA (jR iR rfl (gB (pv 10)) (pD rfl (eY (bp (i:=12) eR.nd rfl (Or.inl rfl)) (eY (bp (i:=13) eR.nd rfl (Or.inl rfl)) (eY (bp (i:=14) eR.nd rfl (Or.inl rfl)) lj)))) (abC lb0
    (rk lbA (ba (i:=15) eR.nd rfl (Or.inl rfl) (jP bO (pv 4) (pv 13) (fun _ _=>rfl)))
    (rk lbB (jR iR rfl (gB (cH v9 (dQ (ae b9 ah)) (pv 15))) (bp (i:=16) eR.nd rfl (Or.inl rfl))
     (aA (ba (i:=17) eR.nd rfl (Or.inl rfl) (cQ GE bZ (ae (pv 2) (ae (pv 15) (ae (pv 7) (ae (pv 5) (ae (pv 16) ah)))))))
     (aA (ba (i:=18) eR.nd rfl (Or.inl rfl) (cQ GO xv (ae (pv 11) (ae (pv 12) (ae (pv 5) (ae (pv 16) ah))))))
     (aA (cf (PW.pt (pw_and (bK (Ae hu) (pv 17) (dQ ah) (bQ _)) (pw_and1 (bK (lu hu) (pv 18) (bJ (ae b9 (ae (pv 5) ah))) (bQ _))))) (aG (bz pH)) cO)
     (aG (cf (PW.pt (pw_and (bK (lu hu) (pv 17) (dQ ah) (bQ _)) (pw_and1 (PW.pt (pw_or (bK nR (a6 cx (pv 18) ay (fun _ _=>rfl)) b9 (bQ _)) (pw_or1 (bK (lu hu) (cQ GR bZ (ae (a6 cx (pv 18) ay (fun _ _=>rfl)) ah)) (pv 17) (bQ _)))))))) (aG (bz pH)) cO))))))
    (rk lbC (ba (i:=17) eR.nd rfl (Or.inl rfl) (cQ GE bZ (ae (pv 2) (ae (pv 15) (ae (pv 7) (ae (pv 5) (ae b9 ah)))))))
    (rk lbD (tF rfl Pn eR.nd (i:=19) rfl rfl (gB (pv 15)) (fun s H fp=>⟨bp (i:=0) Pn.nd rfl (Or.inl rfl),pj (mj (pF bO (bJ (ae (pv 0) (ae (pv 1) ah))) (pv 2))),pv 0⟩))
    (rk lbE (ba (i:=18) eR.nd rfl (Or.inl rfl) (cQ GO xv (ae (pv 11) (ae (pv 12) (ae (pv 6) (ae b9 ah))))))
    (rk lbF (cf (PW.pt (pw_and (bK (Ae hu) (pv 19) (dQ ah) (bQ _)) (pw_and1 (bK (lu hu) (pv 18) (bJ (ae b9 (ae (pv 6) ah))) (bQ _))))) (aG (bz pH)) cO)
    (rk lbG (cf (PW.pt (pw_and (bK (lu hu) (pv 19) (dQ ah) (bQ _)) (pw_and (bK (Ae hu) (pv 17) (dQ ah) (bQ _)) (pw_and1 (bK (lu hu) (pv 18) (bJ (ae b9 (ae (pv 5) ah))) (bQ _)))))) (aG (bz pH)) cO)
    (abD lbH (cf (PW.pt (pw_and (bK (lu hu) (pv 19) (dQ ah) (bQ _)) (pw_and (bK (lu hu) (pv 17) (dQ ah) (bQ _)) (pw_and1 (PW.pt (pw_or (bK nR (a6 cx (pv 18) ay (fun _ _=>rfl)) b9 (bQ _)) (pw_or1 (bK (lu hu) (cQ GR bZ (ae (a6 cx (pv 18) ay (fun _ _=>rfl)) ah)) (pv 17) (bQ _))))))))) (aG (bz pH)) cO)))))))))))
   (aG (bz pH)))))))))))))),?_⟩
  have sz:∀n:Nat,n<=1000->n<=sizeLine:=fun n h=>by rw[aT];omega
  refine⟨_,rfl,E9 (k:=0) hS (by decide) (by decide) fQ fun p H1 hp pk S1=>?_⟩
  refine⟨_,rfl,_,rfl,kC (p:=p) (m:=8) pk (by decide) (by decide) fun dk H3 b0 b1 p3=>⟨1,dk,rfl,rfl,?_⟩⟩
  obtain⟨mk,rfl⟩:=Lv b0;refine tZ.mk (m:=1+mk) (by rw[Int.natCast_add];rfl) p3.ok (by omega) fun lk ks H4 sC kl jC knd p4 h4=>?_
  have k8:ks.length<=8:=by omega
  have sq:ks ≠ []:=fun z=>by rw[z,sS]at kl;omega
  have P4:=p3.trans p4;refine⟨_,rfl,_,rfl,A0.mk rfl P4.ok h4 knd jC k8 fun r t d1 o ws dc L Ps aQ H5 fm=>⟨r,_,rfl,aE.of fm.hr,rfl,_,_,rfl,_,_,rfl,rfl,?_⟩⟩;have P5:=P4.trans fm.pa;have T5:aB H H5:=Bv S1 hp P5;have uD:H5 lk=some (.lst (ks.map V.str)):=fm.pa.kp _ _ h4 (pq P4.ok h4);refine⟨_,rfl,E9 (k:=1) (NM hS T5) (by decide) (by decide) fQ fun p' H6 ij Ul S6=>?_⟩
  have Q8:=S6 _ _ uD;refine⟨_,rfl,tZ.mk (m:=2) rfl Ul (by decide) fun ln ns H7 R3 nl Kh CF p7 h7=>?_⟩
  obtain⟨n0,ot,rfl⟩:∃n0 ot,ns = [n0,ot]:=by
   match ns,nl with
   |[x,y],_=>exact⟨x,y,rfl⟩
  refine⟨ln,_,rfl,ak.of h7,rfl,_,_,rfl,_,_,rfl,rfl,?_⟩;refine⟨_,rfl,kC (p:=p') (m:=4) p7.ok (by decide) (by decide) fun d3 H8 c0 c1 p8=>⟨rfl,_,rfl,?_⟩⟩
  have P8:=p7.trans p8;have GQ:=P8.kp _ _ Q8 (pq Ul Q8);have k0:cZ (ks.map V.str) 0=some (V.str (ks.head sq)):=by
   cases ks with
   |nil=>exact absurd rfl sq
   |cons x l=>exact gg (j:=0) rfl
  refine aeB (iF:=fun aK H'=>∃nm,aK = [some (.ref a),some (.ref p'),some (.ref lk),some (.ref t),some (.ref d1),some (.str nm),some (.str ot),none,none,none,none,none,none,none,none,none,none,none,none,none]/\nm≠ot/\Nm nm/\H'=H8) (fun last=>c7 (fun e=>⟨_,rfl,_,rfl,lk,_,0,_,rfl,rfl,ak.of GQ,k0,rfl,_,rfl,c7 (fun e2=>⟨_,rfl,lk,_,0,_,rfl,rfl,ak.of GQ,k0,last _ _ ⟨_,rfl,fun z=>?_,jC _ (List.head_mem sq),rfl⟩⟩) (fun e2=>last _ _ ⟨n0,rfl,fun z=>?_,Kh _ aW,rfl⟩)⟩) (fun e=>ite_ff rfl (last _ _ ⟨n0,rfl,fun z=>?_,Kh _ aW,rfl⟩))) ?_
  ·rw[<-z]at e2
   simp at e2
  ·subst z;simp at CF
  ·subst z;simp at CF
  rintro σ H9 ⟨nm,rfl,yP,gX,rfl⟩;have yO:=Kh ot (by simp)
  refine⟨_,rfl,_,rfl,_,rfl,_,rfl,Bt.mk rfl P8.ok GQ knd k8 gX yO yP fun db kvs bk kM Um aeC cN dv mb=>?_⟩;have Uo:=P8.trans Um;have Up:aB H5 kM:=Bv S6 ij Uo;have nc:=mb.Q7 k8 jC gX yO;have lkv:=dv.length;have aoC:=mb.aX;have aeD:H db=none:=(T5.trans (Bv S6 ij P8)).free aeC;refine⟨_,rfl,db,kvs,rfl,cN,fun o2 c hc=>?_⟩;have iq:∀b u,b≠db->kM b=some u->upd kM db (.cq o2 (.dT kvs)) b=some u:=fun b u n e=>by rw[ag n];exact e
  have xw:upd kM db (.cq o2 (.dT kvs)) db=some (.cq o2 (.dT kvs)):=af;have Ki:d4 (upd kM db (.cq o2 (.dT kvs))) kvs bk:=dv.keep (fun b xs e=>iq _ _ (ao e cN (by intro z;cases z)) e) nc.ent
  generalize upd kM db (.cq o2 (.dT kvs))=RS at iq xw Ki hc ⊢;refine WZ (fun i ys τ lX=>∃t0 t1 t2:Option V,τ = [t0,t1,t2]/\lX c=some (.lst ys)/\aB RS lX/\dZ lX ys (bk.take i)) ⟨none,none,none,rfl,af,ar hc,.nil⟩ (fun i ys τ lX ⟨_,_,_,_,z1,z2,_⟩=>⟨z1,z2 _ _ xw⟩) ?_ ?_
  ·rintro i kv tp b ys τ lX lM yt hb ⟨t0,t1,t2,rfl,h5,S5,B5⟩
   have b6:i < kvs.length:=(cu.mp lM).1;obtain⟨x,hx,ek,rp⟩:=L2.Paired.get (Ki.same S5) lM;have pm:=kX hx;have gf:bk.take (i+1)=bk.take i ++ [x]:=by rw[eX,hx];rfl
   replace hb:lX b=some (.tup [V.str x.1,V.str x.2.1]):=by rw[ek]at hb;exact hb
   have qA:=ar (o:= .tup [V.ref b,kv.2]) yt;have Q9:upd lX tp (.tup [V.ref b,kv.2]) tp=some (.tup [V.ref b,kv.2]):=af;have Uq:=qA _ _ hb;have Ur:=rp.same qA;generalize upd lX tp (.tup [V.ref b,kv.2])=qB at qA Q9 Uq Ur ⊢;refine⟨tp,_,rfl,aE.of Q9,rfl,_,_,rfl,b,_,rfl,aE.of Uq,rfl,_,_,rfl,_,_,rfl,rfl,_,_,rfl,rfl,?_⟩;refine⟨_,rfl,_,rfl,_,rfl,kQ,fun tt jE=>?_⟩;have S7:=ar (o:= .tup [V.str x.1,V.str x.2.1,kv.2]) jE;have Ra:upd qB tt (.tup [V.str x.1,V.str x.2.1,kv.2]) tt=some (.tup [V.str x.1,V.str x.2.1,kv.2]):=af;have Us:=Ur.same S7;generalize upd qB tt (.tup [V.str x.1,V.str x.2.1,kv.2])=Ut at S7 Ra Us ⊢;have sI:=qA.trans S7;have Uu:=sI _ _ h5;have up:∀ {zs:List V} b xs,Ut b=some (.tup xs)->upd Ut c (.lst zs) b=some (.tup xs):=fun b xs e=>by rw[ag (ao e Uu (by intro z;cases z))];exact e
   refine⟨Uu,?_,cw_next b6 ⟨_,_,_,rfl,af,fun x u hx=>by rw[ag (aq hx hc)];exact sI _ _ (S5 x u hx),?_⟩⟩
   ·have:=B5.length
    rw[eJ]at this;rw[aT];omega
   ·rw[gf]
    exact dZ.append (up _ _ Ra) ((nc.ent x pm).keep Us up) (dZ.keep up (dZ.same sI B5) fun q hq=>nc.ent q (V3 hq))
  ·rintro ys τ lX ⟨t0,t1,t2,rfl,h5,S5,B5⟩
   rw[lkv,eK]at B5;obtain⟨kv6,K6,ek⟩:=B5.keyed;have lb:=B5.length;refine⟨c,_,kv6,2,rfl,.inl (ak.of h5),K6,by decide,by rw[ek];exact nc.nd,by omega,fun D wb RX hD hV hK Jj hso=>?_⟩
   obtain⟨gD,sD,B7⟩:=dZ.perm hV B5;have SD:=ar (o:= .lst wb) hD;refine⟨D,wb,rfl,.inl ⟨ak.of af,fun tb htb=>?_⟩⟩;have S7:=SD.trans (ar (o:= .tup wb) htb);have GU:upd (upd lX D (.lst wb)) tb (.tup wb) tb=some (.tup wb):=af;have B8:=dZ.same S7 B7;generalize upd (upd lX D (.lst wb)) tb (.tup wb)=qB at S7 GU B8 ⊢;have vh:=S5.trans S7;refine⟨db,o2,kvs,vh _ _ xw,fun o u e=>?_,?_⟩
   ·have e:H db=some _:=e
    rw[aeD]at e;cases e
   have sL:aB kM (upd qB db (.dT kvs)):=fun b u e=>by
    by_cases z:b=db
    ·subst z;rw[cN]at e;cases e;exact af
    ·rw[ag z];exact vh _ _ (iq _ _ z e)
   have up:∀b xs,qB b=some (.tup xs)->upd qB db (.dT kvs) b=some (.tup xs):=fun b xs e=>by rw[ag (ao e (vh _ _ xw) (by intro z;cases z))];exact e
   have B9:dZ (upd qB db (.dT kvs)) wb gD:=dZ.keep up B8 (Oi sD nc).ent;have GV:=up _ _ GU;generalize upd qB db (.dT kvs)=Uv at sL B9 GV ⊢;have CU:aB H5 Uv:=Up.trans sL;refine⟨_,rfl,E9 (k:=2) (NM hS (T5.trans CU)) (by decide) (by decide) fQ fun pp G0 hpp Uw Ux=>?_⟩
   refine⟨_,rfl,tZ.mk (m:=2) rfl Uw (by decide) fun lc cs G1 SU cl Ci Cg g1 sd=>⟨lc,cs,rfl,ak.of sd,by omega,fun ld gz hld CV cso=>?_⟩⟩
   have cl':gz.length=2:=CV.length_eq.trans cl;have aeE:∀y∈gz,Nm y:=fun y hy=>Ci y (CV.mem_iff.mp hy);have aeF:gz.Nodup:=CV.nodup_iff.mpr Cg;have g2:=g1.new (o:= .lst (gz.map V.str)) hld;have xx:upd G1 ld (.lst (gz.map V.str)) ld=some (.lst (gz.map V.str)):=af;generalize upd G1 ld (.lst (gz.map V.str))=G2 at g2 xx ⊢;clear CV cso cl Ci Cg sd SU;refine⟨_,rfl,ld,rfl,⟨_,ak.of xx⟩,fun lt aV=>?_⟩;have Bw:G0 lk=some (.lst (ks.map V.str)):=(CU.trans Ux) _ _ uD;have qr:lt≠pp:=aN (g2.ok.ne aV);have FE:G0 lt=none:=by
    cases e:G0 lt with
    |none=>rfl
    |some u=>have:=g2.kp _ _ e qr;rw[aV]at this;cases this
   refine iS (xs:=gz.map V.str) (fun i ys τ G3=>∃ (t0:Option V) (aU:List Th),τ = [t0,some (.ref lk),some (.ref pp)]/\G3 lt=some (.lst ys)/\bU pp G0 G3/\G3 ld=some (.lst (gz.map V.str))/\G3 lk=some (.lst (ks.map V.str))/\oi G3 ys aU/\aU.map (·.1)=gz.take i /\ ∀th∈aU,th.2.1∈ks/\th.2.2 = [])
    ⟨none,[],rfl,af,g2.new aV,(ar aV) _ _ xx,(ar aV) _ _ (g2.kp _ _ Bw (pq Uw Bw)),.nil,rfl,fun th h=>(by cases h)⟩ (fun i ys τ G3 ⟨_,_,_,z1,_,z2,_⟩=>⟨z1,ak.of z2⟩) ?_ ?_
   ·rintro i x ys τ G3 hx ⟨t0,aU,rfl,xy,q3,Rb,GX,yR,sM,B1⟩
    have b6:=(cu.mp hx).1;have cD:i < gz.length:=by simpa using b6
    obtain rfl:V.str gz[i]=x:=by simpa [cD] using hx
    have gf:gz.take (i+1)=gz.take i ++ [gz[i]]:=by rw[eX,b4 cD];rfl
    refine⟨_,rfl,_,rfl,_,rfl,_,rfl,lk,_,rfl,.inl (ak.of GX),?_⟩;refine kC (p:=pp) (m:=((ks.map V.str).length:Int)) q3.ok (by rw[aJ];have:=aoh.mpr sq;omega) (by rw[aJ];omega) fun dj G4 e0 e1 q4=>?_
    rw[aJ]at e1;obtain⟨j,rfl⟩:=Lv e0;have hj:j < ks.length:=by omega
    have Rc:=q4.kp _ _ GX (pq q3.ok GX);have aeG:=q4.kp _ _ Rb (pq q3.ok Rb);have aeH:=q4.kp _ _ xy qr;have tv4:oi G4 ys aU:=yR.keep (EI q3.ok q4);refine⟨lk,_,(j:Int),V.str ks[j],rfl,rfl,ak.of Rc,gg (by rw[jk,b4 hj];rfl),bf _,fun eo pT=>⟨kQ,fun tt jE=>?_⟩⟩
    have S5:=(ar (o:= .tup []) pT).trans (ar (o:= .tup [V.str gz[i],.str ks[j],.ref eo]) jE);have Rf:upd (upd G4 eo (.tup [])) tt (.tup [V.str gz[i],.str ks[j],.ref eo]) tt=some (.tup [V.str gz[i],.str ks[j],.ref eo]):=af;have Rg:upd (upd G4 eo (.tup [])) tt (.tup [V.str gz[i],.str ks[j],.ref eo]) eo=some (.tup []):=by rw[ag (aq af jE)];exact af
    generalize upd (upd G4 eo (.tup [])) tt (.tup [V.str gz[i],.str ks[j],.ref eo])=G5 at S5 Rf Rg ⊢;have Rh:=S5 _ _ aeH;have up:∀ {zs:List V} b xs,G5 b=some (.tup xs)->upd G5 lt (.lst zs) b=some (.tup xs):=fun b xs e=>by rw[ag (ao e Rh (by intro z;cases z))];exact e
    have lth:aU.length=i:=by have:=eU List.length sM;rw[aJ,eJ]at this;omega
    have lys:ys.length=aU.length:=gZ yR;refine⟨Rh,by rw[aT];omega,cw_next b6 ⟨_,aU ++ [(gz[i],ks[j],[])],rfl,af,((q3.trans q4).trans (nM (q3.trans q4).ok S5)).write FE (aN qr),?_,?_,?_,?_,?_⟩⟩
    ·have e5:=S5 _ _ aeG
     by_cases z:ld=lt
     ·exfalso;rw[z]at xx;rw[xx]at aV;cases aV
     ·rw[ag z];exact e5
    ·have e5:=S5 _ _ Rc
     by_cases z:lk=lt
     ·exfalso;rw[z]at Bw;rw[Bw]at FE;cases FE
     ·rw[ag z];exact e5
    ·exact qJ ((tv4.same S5).keep up) ⟨tt,eo,[],rfl,up _ _ Rf,up _ _ Rg,.nil⟩
    ·rw[bB,sM,gf];rfl
    ·intro th xY
     rcases ee.mp xY with z|z
     ·exact B1 th z
     ·rw[dH.mp z];exact⟨kY hj,rfl⟩
   ·rintro ys τ G3 ⟨t0,aU,rfl,xy,q3,_,_,yR,sM,B1⟩
    rw[aJ,eK]at sM;have TG:aB Uv G3:=Bv Ux hpp q3;refine⟨_,rfl,_,rfl,_,rfl,lt,_,rfl,.inl ⟨ak.of xy,fun tt jE=>⟨kQ,fun wd Uy=>?_⟩⟩⟩;have S4:=(ar (o:= .tup ys) jE).trans (ar (o:= .tup [V.ref t,.ref tb,.ref tt]) Uy);have Ri:upd (upd G3 tt (.tup ys)) wd (.tup [V.ref t,.ref tb,.ref tt]) wd=some (.tup [V.ref t,.ref tb,.ref tt]):=af;have Rj:upd (upd G3 tt (.tup ys)) wd (.tup [V.ref t,.ref tb,.ref tt]) tt=some (.tup ys):=by rw[ag (aq af Uy)];exact af
    generalize upd (upd G3 tt (.tup ys)) wd (.tup [V.ref t,.ref tb,.ref tt])=G4 at S4 Ri Rj ⊢;have uE:=TG.trans S4;have vi:=CU.trans uE;have Kj:km ks nm ot gD:=mb.perm sD;have lth:aU.length=2:=by have:=eU List.length sM;rw[aJ]at this;omega
    have li:LI G4 lk d1 db wd t tb tt lt ks dc L kvs bk ys aU o ws wb aQ gD:=
     ⟨vi _ _ uD,vi _ _ fm.h1,fun x hx=>(fm.l1 x hx).same vi,uE _ _ (sL _ _ cN),(dv.same sL).same uE,S4 _ _ xy,⟨Ri,Rj,yR.same S4,by omega,fun x hx=>aeE _ (by rw[<-sM];exact br.mpr ⟨x,hx,rfl⟩),by rw[sM];exact aeF⟩,⟨vi _ _ fm.ht,fm.od,fm.fv.same vi,(fm.fm.acu knd jC k8).perm fm.pm,uE _ _ GV,dZ.same uE B9,Oi sD nc⟩⟩
    have ac2:∀x∈ks,x∈aQ.map (·.1):=fun x hx=>br.mpr ⟨(x,Ps x),fm.pm.mem_iff.mpr (br.mpr ⟨x,hx,rfl⟩),rfl⟩;have Uz:=fm.fm.ld;have cW:=nc.nd;clear vi uE S4 TG CU sL B9 GV GU S7 SD K6 h5 S5 B5 B8 vh Ki iq xw hc Up Uo P8 Um P5 T5 fm yR q3 xy g1 g2;refine⟨_,rfl,lt,rfl,⟨_,ak.of li.hl⟩,tL (xs:=ys) (fun i σ G=>∃ (Kk Kl Km Kn qC qD qE CY:Option V),σ = [some (.ref a),some (.ref pp),some (.ref lk),some (.ref t),some (.ref d1),some (.str nm),some (.str ot),some (.ref db),some (.ref tb),some (.ref ld),some (.ref lt),some (.ref wd),Kk,Kl,Km,Kn,qC,qD,qE,CY]/\aB G4 G)
     ⟨none,none,none,none,none,none,none,none,rfl,aB.refl _⟩ (fun i σ G _ ⟨_,_,_,_,_,_,_,_,_,z⟩=>ak.of (z _ _ li.hl)) ?_ ?_⟩
    ·rintro i y σ G hy ⟨Kk,Kl,Km,Kn,qC,qD,qE,CY,rfl,SG⟩
     have l1:=li.same SG;obtain⟨⟨tn,kd,own⟩,xY,ea,eb,us,rfl,yJ,heb,RN⟩:=L2.Paired.get l1.wd.tv hy;have thm:=kX xY;obtain⟨yS,rfl⟩:=B1 _ thm;have yS:kd∈ks:=yS;obtain⟨la,ela,gY⟩:=l1.l1 kd yS;obtain⟨oQ,jJ⟩:=Uz kd yS;have l8:=ac0 k8 oQ jJ;have UB:∀k∈L kd,k ≠ "" :=fun k hk z=>by have:=(jC k (jJ k hk)).lo;rw[z]at this;exact absurd this (by decide)
     refine⟨ea,_,rfl,aE.of yJ,rfl,_,_,rfl,_,_,rfl,_,_,rfl,rfl,?_⟩;refine⟨_,rfl,_,rfl,d1,.ref la,rfl,by rw[<-ela];exact cU.k (k:=Sum.inr kd) l1.h1,?_⟩
     have mb1:=Oq Kj knd yP oQ UB;have fnp:∀l,ck gD ot l=ck bk ot l:=NC sD cW;have UC:∀l,cC gD ks nm l=cC bk ks nm l:=M1 sD cW nm;have ask:∀ {G':Hp}{n b:Str}{r:Rs},aB G G'->n ∈ [nm,ot]->(b = "" \/ b∈L kd)->aZ.Out ⟨L kd,gD,[]⟩ (n,b) r->rQ wd t tb tt ys aU (tn,kd,[]) o ws wb aQ L gD [nm,ot] (n,b) G':=fun S hn hb ho=>⟨(l1.same S).wd,(l1.same S).fb,thm,ac2 _ yS,jl,Kj.wok k8 jC gX yO l8 jJ,⟨hn,hb⟩,_,ho⟩;refine⟨gI,fun x1 i9=>⟨_,rfl,x1,la,_,_,rfl,rfl,af,(ar i9) _ _ gY,by rw[aJ,aT];show 1+_<=_;omega,fun x3 jD=>?_⟩⟩
     have Sx:=(ar (o:= .lst [V.str ""]) i9).trans (ar (o:= .lst ([V.str ""]++(L kd).map V.str)) jD);have va:upd (upd G x1 (.lst [V.str ""])) x3 (.lst ([V.str ""]++(L kd).map V.str)) x3=some (.lst ((("" : Str)::L kd).map V.str)):=af;generalize upd (upd G x1 (.lst [V.str ""])) x3 (.lst ([V.str ""]++(L kd).map V.str))=G5 at Sx va ⊢;refine⟨_,rfl,⟨_,ak.of va⟩,tL (xs:=(("" : Str)::L kd).map V.str) (fun j σ G6=>∃ (qC qD qE:Option V),σ = [some (.ref a),some (.ref pp),some (.ref lk),some (.ref t),some (.ref d1),some (.str nm),some (.str ot),some (.ref db),some (.ref tb),some (.ref ld),some (.ref lt),some (.ref wd),some (.str tn),some (.str kd),some (.ref eb),some (.ref la),qC,qD,qE,CY]/\aB G5 G6)
      ⟨qC,qD,qE,rfl,aB.refl _⟩ (fun j σ G6 _ ⟨_,_,_,_,z⟩=>ak.of (z _ _ va)) ?_ ?_⟩
     ·rintro j y σ G6 hy ⟨qC,qD,qE,rfl,CZ⟩
      obtain⟨a7,aeI,rfl⟩:∃a7,(("" : Str)::L kd)[j]? = some a7/\V.str a7=y:=by
       rw[jk]at hy;exact kB.mp hy
      have hb:a7 = "" \/ a7∈L kd:=bj.mp (kX aeI);have T6:aB G G6:=Sx.trans CZ;have l6:=l1.same T6;refine⟨_,rfl,_,rfl,_,rfl,_,rfl,_,rfl,xr.mk rfl l6.hk (T6 _ _ gY) (by omega) jJ l6.hd l6.dv nc hb fun r1 G7 S7 bZ=>?_⟩
      have o7:=mb1 a7;rw[UC]at o7;refine⟨_,rfl,_,rfl,_,rfl,_,rfl,xp.mk (th:=(tn,kd,[])) (a:=(nm,a7)) rfl (ask (T6.trans S7) aW hb o7) o7 fun r2 G8 S8 d6=>?_⟩;have Bx:=S8 _ _ bZ;have dd:=Em (bk:=bk) k8 (n:=nm) (r:=cB (L kd) a7) fun k hk=>jJ _ (Zx k hk);have dl:(cC bk ks nm (cB (L kd) a7)).length<=8:=fw (NL _ _) (fw (Zy _ _) l8);have T8:aB G5 G8:=CZ.trans (S7.trans S8);clear o7 bZ;generalize cC bk ks nm (cB (L kd) a7)=ds at Bx d6 dd dl;refine Ek (b:=ku ds && false) (.and (Po rfl Bx) fun he G9 S9=>?_) fun G9 S9=>?_
      ·cases ds with
       |nil=>exact FC gX rfl rfl (S9 _ _ d6)
       |cons d ds=>cases he
      rw[aj (by simp)]
      refine DZ (b:= !ku ds && (false || false)) (.and (Pp rfl (S9 _ _ Bx)) fun he Ko lY=>?_) fun Ko lY=>?_
      ·cases ds with
       |nil=>cases he
       |cons d ds=>exact Pr dd dl rfl rfl ((S9.trans lY) _ _ d6) ((S9.trans lY) _ _ Bx)
      rw[aj (by simp)]
      exact⟨_,_,_,rfl,T8.trans (S9.trans lY)⟩
     ·rintro σ G6 ⟨qC,qD,qE,rfl,CZ⟩
      have T6:aB G G6:=Sx.trans CZ;have l6:=l1.same T6;refine⟨_,rfl,_,rfl,_,rfl,_,rfl,xr.mk rfl l6.hk (T6 _ _ gY) (by omega) jJ l6.hd l6.dv nc (.inl rfl) fun r1 G7 S7 bZ=>?_⟩
      rw[show cB (L kd) "" = L kd from ax rfl]at bZ;have T7:=T6.trans S7;have l7:=l1.same T7;have Rk:=T7 _ _ gY;refine⟨_,rfl,la,rfl,⟨_,ak.of Rk⟩,fun c hc=>?_⟩;refine iS (xs:=(L kd).map V.str) (fun m ys τ G8=>∃t0:Option V,τ = [t0,some (.str ot),some (.ref db)]/\G8 c=some (.lst ys)/\aB G7 G8/\ys=(oS bk ot ((L kd).take m)).map V.str) ⟨none,rfl,af,ar hc,rfl⟩ (fun m ys τ G8 ⟨_,_,z1,z2,_⟩=>⟨z1,ak.of (z2 _ _ Rk)⟩) ?_ ?_
      ·rintro m x ys τ G8 hx ⟨t0,rfl,h8,S8,rfl⟩
       have b6:=(cu.mp hx).1;have UD:m < (L kd).length:=by simpa using b6
       obtain rfl:V.str (L kd)[m]=x:=by simpa [UD] using hx
       have gf:(L kd).take (m+1)=(L kd).take m ++ [(L kd)[m]]:=by rw[eX,b4 UD];rfl
       refine⟨_,rfl,_,rfl,cJ,fun kt jf=>?_⟩;have Sk:=ar (o:= .tup [V.str (L kd)[m],V.str ot]) jf;have jK:upd G8 kt (.tup [V.str (L kd)[m],V.str ot]) kt=some (.tup (([Sum.inr (L kd)[m],Sum.inr ot]:List Key).map kV)):=af;generalize upd G8 kt (.tup [V.str (L kd)[m],V.str ot])=G9 at Sk jK ⊢;have S9:=S8.trans Sk;have l9:=l7.same S9;have ew:oS bk ot ((L kd).take (m+1))=oS bk ot ((L kd).take m)++(if (cy bk (L kd)[m] ot).isSome=true then [(L kd)[m]] else []):=by
        rw[gf];unfold oS;rw[nK];congr 1;rw[Dm];rfl
       refine⟨_,rfl,db,_,rfl,cU.t (k:= [Sum.inr (L kd)[m],Sum.inr ot]) l9.hd jK,_,rfl,?_⟩;rcases l9.dv.look (k:=(L kd)[m]) (n:=ot) nc.nd with⟨e1,e2⟩|⟨v,d,e1,e2,rv⟩
       ·rw[e1]at ew
        rw[e2,aj (by simp)]
        exact cw_next b6 ⟨_,rfl,Sk _ _ h8,S9,by rw[ew];simp⟩
       ·rw[e1]at ew
        rw[e2];refine ite_tt rfl ?_;have hc9:=Sk _ _ h8;have wl:(oS bk ot ((L kd).take m)).length<=m:=fw (nJ _ _) (List.length_take_le _ _);refine⟨_,rfl,hc9,by rw[aJ,aT];omega,cw_next b6 ⟨_,rfl,af,fun x u hx=>by rw[ag (aq hx hc)];exact S9 x u hx,by rw[ew,bB];rfl⟩⟩
      rintro ys τ G8 ⟨t0,rfl,h8,S8,rfl⟩;rw[aJ,eK]at h8;have Rl:=S8 _ _ bZ;have oo:=Zz Kj knd yP oQ UB;rw[fnp,UC]at oo;refine⟨_,rfl,_,rfl,_,rfl,xp.mk (th:=(tn,kd,[])) (a:=(ot,"")) rfl (ask (T7.trans S8) (by simp) (.inl rfl) oo) oo fun r2 G9 S9 d6=>?_⟩
      have dd:=Em (bk:=bk) k8 (n:=nm) jJ;have dl:(cC bk ks nm (L kd)).length<=8:=fw (NL _ _) l8;have wf:=Ot (bk:=bk) (n:=ot) (line:=L kd);have wn:∀x∈oS bk ot (L kd),Nm x:=fun x hx=>jC _ (jJ x (kz.mp hx).1);have C0:=S9 _ _ h8;have By:=S9 _ _ Rl;have T9:aB G4 G9:=SG.trans (T7.trans (S8.trans S9));clear oo h8 Rl bZ;generalize cC bk ks nm (L kd)=ds at By d6 dd dl;generalize oS bk ot (L kd)=ws at C0 wf wn;refine Ek (b:=ku ws && false) (.and (ac1 wn rfl C0) fun he Ko lY=>?_) fun Ko lY=>?_
      ·cases ws with
       |nil=>rw[ax (wf.mp rfl)]at d6;exact FC yO rfl rfl (lY _ _ d6)
       |cons d ws=>cases he
      rw[aj (by simp)]
      refine DZ (b:= !ku ws && (ku ds && false)) (.and (Pq wn rfl (lY _ _ C0)) fun he G11 C1=>.and (Po rfl ((lY.trans C1) _ _ By)) fun Kq UE jg=>?_) fun G11 C1=>?_
      ·cases ws with
       |nil=>cases he
       |cons d ws =>
        rw[aj (fun z=>by cases (wf.mpr z))]at d6
        cases ds with
        |nil=>exact FC gX rfl rfl ((lY.trans (C1.trans jg)) _ _ d6)
        |cons d ds=>cases Kq
      rw[aj (by simp)]
      have Bz:=lY.trans C1;refine DZ (b:= !ku ws && (!ku ds && (false || false))) (.and (Pq wn rfl (Bz _ _ C0)) fun he UE jg=>.and (Pp rfl ((Bz.trans jg) _ _ By)) fun Kq G13 vh=>?_) fun UE jg=>?_
      ·cases ws with
       |nil=>cases he
       |cons d ws =>
        rw[aj (fun z=>by cases (wf.mpr z))]at d6
        have Rm:=Bz.trans (jg.trans vh);cases ds with
        |nil=>cases Kq
        |cons d ds=>exact Pr dd dl rfl rfl (Rm _ _ d6) (Rm _ _ By)
      rw[aj (by simp)]
      exact⟨_,_,_,_,_,_,_,_,rfl,T9.trans (Bz.trans jg)⟩
    ·rintro σ G ⟨Kk,Kl,Km,Kn,qC,qD,qE,CY,rfl,SG⟩
     exact q G
end gu
namespace gu
open PySem L2 PySem.W
def UG (K:Frag) (LE M:Addr):Bool:=E6 K M && (mroIn K M (.ref M)==some true && (findIn K (.ref M) "name" == some none && (keepIn K (.ref M) && (readsIn K LE (.type "type") && specialIn K (.ref LE) "__getattribute__" == some (some (.builtin "type.__getattribute__"))))))
theorem all_mk {l:OpenLaw}{fa:Addr} (X:K.In h) (G:h.Ns mainGlobals mg) (kS:mg "law" = some (.ref fa)) {LE UH C3 yT yU C4 yV yW yX yY yZ y4 C5 y6 y8 vj Ks:Addr}{dtk:Tok}{ac3:Option Addr}{ac4:Array (Option Value)}{ac5:Value}{aeJ:Nat}{aeK aeL:Option Addr}{aeM:Array (Option Value)}{aeN aeO aeP aeQ Rn aeR:Value}{aeS aeT:Option Addr}{aeU:Array (Option Value)}{aeV aeW aeX aeY Ro aeZ:Value}{ae0 ae1:Option Addr}{ae2:Array (Option Value)}{ae3 ae4 ae5 ae6 Rp ae7:Value}{ae8 ae9:Option Addr}{afa:Array (Option Value)}{afb afc afd afe Rq aff:Value}{afg afh:Option Addr}{afi:Array (Option Value)}{afj afk afl afm Rr afn:Value}{afo afp:Option Addr}{afq:Array (Option Value)}{afr afs aft afu Rt afv:Value}{afw afx:Option Addr}{afy:Array (Option Value)}{afz afA afB afC Ru afD:Value}{afE afF:Option Addr}{afG:Array (Option Value)}{afH afI afJ afK Rv afL:Value}{afM afN:Option Addr}{afO:Array (Option Value)}{afP afQ afR afS Rw afT:Value}{afU afV:Option Addr}{afW:Array (Option Value)}{afX afY afZ af0 Rx af1:Value}{af2 af3:Option Addr}{af4:Array (Option Value)}{af5 af6 af7 af8 Ry af9:Value}{aga agb:Option Addr}{agc:Array (Option Value)}{agd age agf agg Rz agh:Value}{agi agj:Option Addr}{agk:Array (Option Value)}{agl agm agn ago RA agp:Value}{agq agr:Option Addr}{ags:Array (Option Value)}{agt agu agv agw RB agx:Value}{agy agz:Option Addr}{agA:Array (Option Value)}{agB agC agD agE RC agF:Value}
  (hd:Ce K [pr "is_name" vV,pr "check_name" ED,pr "goes_first" DI,pr "steps_of" Eb,pr "merged" vW,pr "least_free" Af,pr "wish_against" wL,pr "lines_of" t8,pr "line_from" vH,pr "finds_in" Ec,pr "is_behind" DV,pr "check_behind" EF,pr "entries_by_place" vO,pr "is_thing" vP,pr "check_thing" EG,pr "kind_and_own" vQ,pr "whole_asked" DE,pr "whole_of" Ed,pr "_law_pot" Gd,pr "_law_digit" wj,pr "_law_names" nP,pr "_law_merged" mh,pr "_law_line" wk,pr "_law_parents" DW,pr "_law_family" vR,pr "_law_marked" EH,pr "_law_told" Ft,pr "_law_due" Ge,pr "_law_read" Fu,pr "law" n9])
  (hz:Gb K ["len","max","min","abs","range","any","all","list","tuple","enumerate","isinstance","str","dict","sorted","int","bool","set"])
  (Kt:nsIn K mainGlobals "LineError" = some (some (.ref LE)))
  (aM:nsIn K mainGlobals "Missing" = some (some (.ref M)))
  (aD:nsIn K mainGlobals "Finds" = some (some (.ref D)))
  (Ku:plainGet K D Str.empty=true)
  (r6:hasDictIn K D=true)
  (Kv:plainOver K D=true)
  (Kw:findIn K (.ref D) "__setattr__" = some (some (.builtin "object.__setattr__")))
  (Kx:makesIn K D=true)
  (Ky:keepIn K (.ref D)=true)
  (aC:nsIn K mainGlobals "Whole" = some (some (.ref C)))
  (Kz:plainGet K C Str.empty=true)
  (KA:hasDictIn K C=true)
  (KC:plainOver K C=true)
  (KG:findIn K (.ref C) "__setattr__" = some (some (.builtin "object.__setattr__")))
  (KH:makesIn K C=true)
  (KI:keepIn K (.ref C)=true)
  (aR:nsIn K mainGlobals "Reckoning" = some (some (.ref R)))
  (KJ:plainGet K R Str.empty=true)
  (KL:hasDictIn K R=true)
  (KN:plainOver K R=true)
  (KO:findIn K (.ref R) "__setattr__" = some (some (.builtin "object.__setattr__")))
  (KP:makesIn K R=true)
  (KQ:keepIn K (.ref R)=true)
  (GY:findIn K (.ref D) "__init__" = some (some (.ref C3)))
  (GZ:isFn K (.ref C3)=true)
  (Ha:K.lookup C3=some ⟨aeN,aeK,.func (fnOf "__init__" "Finds.__init__" (c9 uk) (bH uk) (aI uk) .none aeO aeP aeQ aeL Rn aeR),aeM⟩)
  (Hb:codeIn K Rn "Finds.__init__" = true)
  (Hc:keepIn K (.ref C3)=true)
  (Hd:findIn K (.ref D) "look" = some (some (.ref yT)))
  (He:isFn K (.ref yT)=true)
  (Hf:K.lookup yT=some ⟨aeV,aeS,.func (fnOf "look" "Finds.look" (c9 um) (bH um) (aI um) .none aeW aeX aeY aeT Ro aeZ),aeU⟩)
  (Hg:codeIn K Ro "Finds.look" = true)
  (BA:keepIn K (.ref yT)=true)
  (Hh:findIn K (.ref D) "walk" = some (some (.ref yU)))
  (Hi:isFn K (.ref yU)=true)
  (Hj:K.lookup yU=some ⟨ae3,ae0,.func (fnOf "walk" "Finds.walk" (c9 uo) (bH uo) (aI uo) .none ae4 ae5 ae6 ae1 Rp ae7),ae2⟩)
  (Hk:codeIn K Rp "Finds.walk" = true)
  (BB:keepIn K (.ref yU)=true)
  (Hm:findIn K (.ref C) "__init__" = some (some (.ref C4)))
  (Hn:isFn K (.ref C4)=true)
  (Ho:K.lookup C4=some ⟨afb,ae8,.func (fnOf "__init__" "Whole.__init__" (c9 t9) (bH t9) (aI t9) .none afc afd afe ae9 Rq aff),afa⟩)
  (Hq:codeIn K Rq "Whole.__init__" = true)
  (Hr:keepIn K (.ref C4)=true)
  (Hs:findIn K (.ref C) "forebears" = some (some (.ref yV)))
  (Ht:isFn K (.ref yV)=true)
  (Hu:K.lookup yV=some ⟨afj,afg,.func (fnOf "forebears" "Whole.forebears" (c9 tG) (bH tG) (aI tG) .none afk afl afm afh Rr afn),afi⟩)
  (Hv:codeIn K Rr "Whole.forebears" = true)
  (BC:keepIn K (.ref yV)=true)
  (Hw:findIn K (.ref C) "tell" = some (some (.ref yW)))
  (Hx:isFn K (.ref yW)=true)
  (Hy:K.lookup yW=some ⟨afr,afo,.func (fnOf "tell" "Whole.tell" (c9 uq) (bH uq) (aI uq) .none afs aft afu afp Rt afv),afq⟩)
  (Hz:codeIn K Rt "Whole.tell" = true)
  (BD:keepIn K (.ref yW)=true)
  (HA:findIn K (.ref C) "enter" = some (some (.ref yX)))
  (HB:isFn K (.ref yX)=true)
  (HC:K.lookup yX=some ⟨afz,afw,.func (fnOf "enter" "Whole.enter" (c9 pG) (bH pG) (aI pG) .none afA afB afC afx Ru afD),afy⟩)
  (HD:codeIn K Ru "Whole.enter" = true)
  (BE:keepIn K (.ref yX)=true)
  (HE:findIn K (.ref C) "go_on" = some (some (.ref yY)))
  (HF:isFn K (.ref yY)=true)
  (HG:K.lookup yY=some ⟨afH,afE,.func (fnOf "go_on" "Whole.go_on" (c9 ur) (bH ur) (aI ur) .none afI afJ afK afF Rv afL),afG⟩)
  (HH:codeIn K Rv "Whole.go_on" = true)
  (BF:keepIn K (.ref yY)=true)
  (HI:findIn K (.ref C) "come_to" = some (some (.ref yZ)))
  (HJ:isFn K (.ref yZ)=true)
  (HK:K.lookup yZ=some ⟨afP,afM,.func (fnOf "come_to" "Whole.come_to" (c9 tW) (bH tW) (aI tW) .none afQ afR afS afN Rw afT),afO⟩)
  (HL:codeIn K Rw "Whole.come_to" = true)
  (BG:keepIn K (.ref yZ)=true)
  (HM:findIn K (.ref C) "settle" = some (some (.ref y4)))
  (HN:isFn K (.ref y4)=true)
  (HP:K.lookup y4=some ⟨afX,afU,.func (fnOf "settle" "Whole.settle" (c9 pw) (bH pw) (aI pw) .none afY afZ af0 afV Rx af1),afW⟩)
  (HQ:codeIn K Rx "Whole.settle" = true)
  (BH:keepIn K (.ref y4)=true)
  (HR:findIn K (.ref R) "__init__" = some (some (.ref C5)))
  (HU:isFn K (.ref C5)=true)
  (HV:K.lookup C5=some ⟨af5,af2,.func (fnOf "__init__" "Reckoning.__init__" (c9 uc) (bH uc) (aI uc) .none af6 af7 af8 af3 Ry af9),af4⟩)
  (HW:codeIn K Ry "Reckoning.__init__" = true)
  (HX:keepIn K (.ref C5)=true)
  (HY:findIn K (.ref R) "step_by" = some (some (.ref y6)))
  (HZ:isFn K (.ref y6)=true)
  (Ia:K.lookup y6=some ⟨agd,aga,.func (fnOf "step_by" "Reckoning.step_by" (c9 tX) (bH tX) (aI tX) .none age agf agg agb Rz agh),agc⟩)
  (Ib:codeIn K Rz "Reckoning.step_by" = true)
  (BI:keepIn K (.ref y6)=true)
  (Ic:findIn K (.ref R) "take_in" = some (some (.ref y8)))
  (Ie:isFn K (.ref y8)=true)
  (Ig:K.lookup y8=some ⟨agl,agi,.func (fnOf "take_in" "Reckoning.take_in" (c9 tY) (bH tY) (aI tY) .none agm agn ago agj RA agp),agk⟩)
  (Ih:codeIn K RA "Reckoning.take_in" = true)
  (BJ:keepIn K (.ref y8)=true)
  (RE:findIn K (.ref M) "__init__" = some (some (.ref vj)))
  (Ii:isFn K (.ref vj)=true)
  (Ij:K.lookup vj=some ⟨agt,agq,.func (fnOf "__init__" "Missing.__init__" (c9 qU) (bH qU) (aI qU) .none agu agv agw agr RB agx),ags⟩)
  (Ik:codeIn K RB "Missing.__init__" = true)
  (Il:keepIn K (.ref vj)=true)
  (Im:jS K M (some (.ref vj))=true)
  (Io:nsIn K mainGlobals "number_asked" = some (some (.ref Ks)))
  (Ip:K.lookup Ks=some ⟨agB,agy,.func (fnOf "number_asked" "number_asked" (c9 tI) (bH tI) (aI tI) (.ref UH) agC agD agE agz RC agF),agA⟩)
  (Iq:codeIn K RC "number_asked" = true)
  (BK:keepIn K (.ref Ks)=true)
  (Ir:K.lookup UH=some ⟨ac5,ac3,.seq #[.str "" dtk] aeJ,ac4⟩)
  (EL:findIn K (.ref D) "lines" = some none)
  (D0:findIn K (.ref D) "entries" = some none)
  (Fb:findIn K (.ref D) "hits" = some none)
  (FF:findIn K (.ref D) "met" = some none)
  (EM:findIn K (.ref C) "finds" = some none)
  (Fc:findIn K (.ref C) "kind" = some none)
  (FG:findIn K (.ref C) "own" = some none)
  (Fd:findIn K (.ref C) "kept" = some none)
  (EN:findIn K (.ref C) "known" = some none)
  (EO:findIn K (.ref C) "begun" = some none)
  (En:findIn K (.ref R) "asking" = some none)
  (ER:findIn K (.ref R) "where" = some none)
  (Fe:findIn K (.ref R) "left" = some none)
  (ES:findIn K (.ref R) "total" = some none)
  (Eo:findIn K (.ref R) "rested" = some none)
  (hx:UG K LE M=true)
  (KR:findCls K (.ref LE) (.type "type") "__init__" = some (.val (.builtin "ValueError.__init__"))) :
  ∃fd:FuncData,(∀ (s:Shared) (v:Value),BindsTo s fd ⟨[v],[]⟩ [("_law_script",v)]) /\ ∀base:Heap,K.In base->base.Ns mainGlobals mg->aS l.prog w K mg base aO 11 fa fd ["_law_script"] (uv K):=by
 have z:∀x∈_,mg x=none:=Oc X G hz;obtain⟨hNm,hCn,hGf,hSo,hMg,hLf,hWi,hLs,hLr,hFi,hIb,hCb,hEb,hIt,hCt,hKo,hWq,hWo,hP,hD,hN,hMe,hLn,hPr,hFy,hMk,hTd,hDu,hRd,hL,-⟩:=hd;obtain⟨fNm,dNm,FNm,UI,UJ,UK⟩:=mi X G hNm "thing";obtain⟨fCn,dCn,FCn,kCn,bCn,mCn⟩:=mi X G hCn "thing";obtain⟨fGf,dGf,FGf,kGf,bGf,mGf⟩:=mi X G hGf "entry";obtain⟨fSo,dSo,FSo,kSo,bSo,mSo⟩:=mi X G hSo "entry";obtain⟨fMg,dMg,FMg,kMg,bMg,mMg⟩:=mi X G hMg "rows";obtain⟨fLf,dLf,FLf,kLf,bLf,mLf⟩:=mi X G hLf "rest";obtain⟨fWi,dWi,FWi,kWi,bWi,mWi⟩:=jQ X G hWi "rest" "name";obtain⟨fLs,dLs,FLs,kLs,bLs,mLs⟩:=mi X G hLs "family";obtain⟨fLr,dLr,FLr,kLr,bLr,mLr⟩:=Ob X G hLr "lines" "kind" "parents";obtain⟨fFi,dFi,FFi,kFi,bFi,mFi⟩:=jQ X G hFi "family" "book";obtain⟨fIb,dIb,FIb,kIb,bIb,mIb⟩:=jQ X G hIb "line" "thing";obtain⟨fCb,dCb,FCb,kCb,bCb,mCb⟩:=jQ X G hCb "line" "thing";obtain⟨fEb,dEb,FEb,kEb,bEb,mEb⟩:=mi X G hEb "book";obtain⟨fIt,dIt,FIt,kIt,bIt,mIt⟩:=jQ X G hIt "world" "thing";obtain⟨fCt,dCt,FCt,kCt,bCt,mCt⟩:=jQ X G hCt "world" "thing";obtain⟨fKo,dKo,FKo,kKo,bKo,mKo⟩:=jQ X G hKo "world" "thing";obtain⟨fWq,dWq,FWq,kWq,bWq,mWq⟩:=EC X G hWq "world" "thing" "name" "behind";obtain⟨fWo,dWo,FWo,kWo,bWo,mWo⟩:=jQ X G hWo "world" "thing";obtain⟨fP,dP,FP,kP,bP,mP⟩:=jQ X G hP "_law_script" "_law_k";obtain⟨fD,dD,FD,kD,bD,mD⟩:=jQ X G hD "_law_pot_here" "_law_many";obtain⟨fN,dN,FN,kN,bN,mN⟩:=jQ X G hN "_law_pot_here" "_law_many";obtain⟨fMe,dMe,FMe,kMe,bMe,mMe⟩:=mi X G hMe "_law_rows";obtain⟨Uz,dLn,FLn,kLn,bLn,mLn⟩:=Ob X G hLn "_law_lines" "_law_kind" "_law_own";obtain⟨fPr,dPr,FPr,kPr,bPr,mPr⟩:=jQ X G hPr "_law_pot_here" "_law_made";obtain⟨fFy,dFy,FFy,kFy,bFy,mFy⟩:=jQ X G hFy "_law_pot_here" "_law_kinds";obtain⟨fMk,dMk,FMk,kMk,bMk,mMk⟩:=EC X G hMk "_law_pot_here" "_law_kinds" "_law_name" "_law_other";obtain⟨fTd,dTd,FTd,kTd,bTd,mTd⟩:=EC X G hTd "_law_world" "_law_thing" "_law_name" "_law_behind";obtain⟨fDu,dDu,FDu,kDu,bDu,mDu⟩:=aan X G hDu "_law_kinds" "_law_line_here" "_law_book" "_law_name" "_law_behind";obtain⟨fRd,dRd,FRd,kRd,bRd,mRd⟩:=mi X G hRd "_law_number_here";obtain⟨fL,dL,FL,aL⟩:=hL;cases kS.symm.trans (mg_of X G aL)
 have nz:∀ {x:Str},x∈_->mg x=none:=fun {x} m=>z x m;have Bl:gV mg:=⟨nz (by decide),nz (by decide),nz (by decide),nz (by decide),nz (by decide),nz (by decide),nz (by decide),nz (by decide),nz (by decide),nz (by decide)⟩
 have B2:pO mg:=⟨nz (by decide),nz (by decide),nz (by decide),nz (by decide)⟩
 have B3:QL mg:=⟨nz (by decide),nz (by decide)⟩
 have TF:pR K mg D:=⟨⟨Ku,r6,Kv,Kw⟩,EL,D0,Fb,FF,mg_of X G aD⟩;have TR:pS K mg R:=⟨⟨KJ,KL,KN,KO⟩,En,ER,Fe,ES,Eo,mg_of X G aR⟩;have TW:lE K mg C:=⟨⟨Kz,KA,KC,KG⟩,EM,Fc,FG,Fd,EN,EO,mg_of X G aC⟩;have UL:=iV (st:=uk) Ha Hb Hc;have bIn:=UL.binds (ps:= ["self","lines","entries"]) fun|_,_,_,_,_,_,[_,_,_],_=>rfl;have UM:=iV (st:=um) Hf Hg BA;have UN:=UM.binds (ps:= ["self","kind","name","behind"]) fun|_,_,_,_,_,_,[_,_,_,_],_=>rfl;have UO:=iV (st:=uo) Hj Hk BB;have bWk:=UO.binds (ps:= ["self","kind","name","behind"]) fun|_,_,_,_,_,_,[_,_,_,_],_=>rfl;have UP:=iV (st:=t9) Ho Hq Hr;have bWn:=UP.binds (ps:= ["self","finds","kind","own","kept"]) fun|_,_,_,_,_,_,[_,_,_,_,_],_=>rfl;have UQ:=iV (st:=tG) Hu Hv BC;have bFo:=UQ.binds (ps:= ["self"]) fun|_,_,_,_,_,_,[_],_=>rfl;have UR:=iV (st:=uq) Hy Hz BD;have bTl:=UR.binds (ps:= ["self","first"]) fun|_,_,_,_,_,_,[_,_],_=>rfl;have US:=iV (st:=pG) HC HD BE;have bEn:=US.binds (ps:= ["self","standing","asking"]) fun|_,_,_,_,_,_,[_,_,_],_=>rfl;have UT:=iV (st:=ur) HG HH BF;have bGo:=UT.binds (ps:= ["self","reckoning"]) fun|_,_,_,_,_,_,[_,_],_=>rfl;have UU:=iV (st:=tW) HK HL BG;have bCo:=UU.binds (ps:= ["self","reckoning","step"]) fun|_,_,_,_,_,_,[_,_,_],_=>rfl;have UW:=iV (st:=pw) HP HQ BH;have bSe:=UW.binds (ps:= ["self","reckoning"]) fun|_,_,_,_,_,_,[_,_],_=>rfl;have UX:=iV (st:=uc) HV HW HX;have bRi:=UX.binds (ps:= ["self","asking","where","steps"]) fun|_,_,_,_,_,_,[_,_,_,_],_=>rfl;have UY:=iV (st:=tX) Ia Ib BI;have bSb:=UY.binds (ps:= ["self","step"]) fun|_,_,_,_,_,_,[_,_],_=>rfl;have UZ:=iV (st:=tY) Ig Ih BJ;have bTi:=UZ.binds (ps:= ["self","told"]) fun|_,_,_,_,_,_,[_,_],_=>rfl;have U0:=iV (st:=qU) Ij Ik Il;have bMi:=U0.binds (ps:= ["self","name"]) fun|_,_,_,_,_,_,[_,_],_=>rfl;have U3:=aad (st:=tI) Ip Iq BK;have bNa:=U3.binds (ps:=qz) (ds:= []) Ir fun _ _ _ _ _ _ us hl=>by
  have h4:us.length=4:=by simpa using hl
  exact match us,h4 with | [_,_,_,_],_=>⟨_,rfl,rfl⟩
 have mNa:=mg_of X G Io;unfold UG at hx;simp only[nE,eV]at hx;obtain⟨x1,x2,x3,x4,x5,x6⟩:=hx;have TM:Fx K mg LE M vj _:=⟨mg_of X G aM,Im,Ii,x4,U0,⟨x5,x6,KR⟩,mg_of X G Kt,bMi,aap x1,x3⟩;have MW:Meth K D "walk" yU:=⟨Hh,Hi,BB⟩;have ML:Meth K D "look" yT:=⟨Hd,He,BA⟩;have MF:Meth K C "forebears" yV:=⟨Hs,Ht,BC⟩;have MT:Meth K C "tell" yW:=⟨Hw,Hx,BD⟩;have ME:Meth K C "enter" yX:=⟨HA,HB,BE⟩;have MG:Meth K C "go_on" yY:=⟨HE,HF,BF⟩;have MC:Meth K C "come_to" yZ:=⟨HI,HJ,BG⟩;have MS:Meth K C "settle" y4:=⟨HM,HN,BH⟩;have MB:Meth K R "step_by" y6:=⟨HY,HZ,BI⟩;have MI:Meth K R "take_in" y8:=⟨Ic,Ie,BJ⟩;obtain⟨_,_,_,_,_,_,_,_,_,rfl,_,_⟩:=FL.ex;exact⟨_,fun s v=>.of_eq rfl,fun base _ _ =>
  let U4:=aar FNm Bl B2
  let GCn:=abz FCn ⟨U4,UI,UJ,UK⟩
  let GGf:=acG FGf
  let GMg:=Yl FMg Bl FWi bWi mWi FLf bLf mLf
  let GLr:=acn FLr Bl ⟨GMg,kMg,bMg,mMg⟩
  let GLs:=Zn FLs Bl ⟨GLr,kLr,bLr,mLr⟩
  let GEb:=acw FEb
  let GWk:=aaC UO TF
  let U5:=aaD UM TF GWk MW bWk
  let GFi:=acA FFi TF ⟨GLs,kLs,bLs,mLs⟩ ⟨GEb,kEb,bEb,mEb⟩ ⟨Kx,GY,GZ,Ky⟩ (abv UL TF) bIn
  let GIb:=acx FIb B2
  let GCb:=acy FCb ⟨GIb,kIb,bIb,mIb⟩
  let GIt:=acB FIt ⟨U4,UI,UJ,UK⟩
  let GCt:=acC FCt ⟨GIt,kIt,bIt,mIt⟩
  let GKo:=acE FKo ⟨GCt,kCt,bCt,mCt⟩
  let GWo:=acS FWo B2 TW ⟨GKo,kKo,bKo,mKo⟩ ⟨GFi,kFi,bFi,mFi⟩ ⟨KH,Hm,Hn,KI⟩ (abw UP B2 TW) bWn
  let GSo:=acH FSo
  let GRi:=acI UX Bl TR
  let GCo:=acL UU TW TF TR U5 ML UN
  let GGo:=acM UT TW TR GCo MC bCo (acJ UY TR) MB bSb (acK UZ TR) MI bTi
  let GSe:=acN UW Bl B2 (nz (by decide)) TW TR
  let GEn:=acQ US TW TF TR TM U5 ML UN ⟨GGf,kGf,bGf,mGf⟩ ⟨GSo,kSo,bSo,mSo⟩ ⟨KP,HR,HU,KQ⟩ GRi bRi
  let GTl:=acR UR TW GEn ME bEn GGo MG bGo GSe MS bSe
  let GWq:=acU FWq TW ⟨GWo,kWo,bWo,mWo⟩ ⟨GCn,kCn,bCn,mCn⟩ ⟨GCb,kCb,bCb,mCb⟩ (aaH UQ TW TF) MF bFo GTl MT bTl
  let GNa:=acV U3 TW ⟨GWq,kWq,bWq,mWq⟩
  let GD:=Ee FD
  let GFy:=acv FFy Bl B2 (abq FPr Bl FD bD mD) kPr bPr mPr (acq FLn Bl FMe bMe mMe) kLn bLn mLn
  let GP:=abn FP Bl
  let GN:=Zj FN Bl FD bD mD
  let GMk:=acZ FMk Bl ⟨GD,kD,bD,mD⟩
  let GTd:=acX FTd TM x2 ⟨GNa,BK,bNa,mNa⟩
  let GDu:=abB FDu
  let GRd:=acY FRd Bl B3
  abE FL Bl B2 ⟨GP,kP,bP,mP⟩ ⟨GD,kD,bD,mD⟩ ⟨GN,kN,bN,mN⟩ ⟨GFy,kFy,bFy,mFy⟩ ⟨GMk,kMk,bMk,mMk⟩ ⟨GTd,kTd,bTd,mTd⟩ ⟨GDu,kDu,bDu,mDu⟩ ⟨GRd,kRd,bRd,mRd⟩⟩
theorem walk {l:OpenLaw}{q:Program}{d:DefRec}{K:Params->Frag} (hn:l.most=some 63) (xI:d.params.defaults = [])
  (hY:∀ (w:World) (h:Heap),YP w h->(K w.params).In h)
  (F:∀ (w:World) (mg:Str->Option Value) (fa:Addr) (h:Heap),(K w.params).In h->h.Ns mainGlobals mg->mg d.name=some (.ref fa) ->
   ∃fd:FuncData,(∀ (s:Shared) (u:Value),BindsTo s fd ⟨[u],[]⟩ [("_law_script",u)]) /\ ∀base:Heap,(K w.params).In base->base.Ns mainGlobals mg->aS l.prog w (K w.params) mg base aO 11 fa fd ["_law_script"] (uv (K w.params))) :
  WalkO q loose XP YP l.row.toRowW d [] (fun f vs=>PySem.call f vs):=
 L2.ZP (n:=63) (k:=11) (x:= "_law_script") (CX:=fun _=>aO) (sp:=fun w=>uv (K w.params)) hn (by decide) xI ⟨rfl,by decide,by decide,rfl⟩ hY F (fun _ _ a ns hl _ hS=>uv.mk rfl hS hl fun _=>rfl) fun _ _ _ _ _ z=>z
end gu
namespace PySem.W.Fast
def tw5681669897012766278:=0
def tw4209342067706464554:=0
def tw10258445247404684652:=0
def tw4975549222480271:=0
def tw12882574481178254562:=0
def tw5592649913688625574:=0
def tw15829475055191794300:=0
def tw11870767897617738381:=0
def tw1163919591083858433:=0
def tw12496762369627762267:=0
def tw3003593216572939432:=0
def tw17608467672599565924:=0
def tw15337903638704208365:=0
def tw16625555228028289898:=0
def tw5865349332419047199:=0
def tw6950725515394965500:=0
def tw9726968273840186966:=0
def tw2455100880856438647:=0
def tw11441513246853946942:=0
def tw7576450843688749829:=0
def tw4243945331116495722:=0
def tw5624230681108121610:=0
def tw10718404895696933958:=0
def tw15196575330229898612:=0
def tw1241056773181139364:=0
def tw3954685026260290662:=0
def tw16854962554720712991:=0
def tw6318974770603121631:=0
def tw10004906842734073654:=0
def tw14203390420394803066:=0
def tw17329216594943483103:=0
def tw3067897458160134208:=0
def tw18326626775037355550:=0
def tw1200776391537870751:=0
def tw4698206863109120473:=0
def tw11083270985792849618:=0
def tw12743565997648635657:=0
def tw17188359543741585793:=0
def tw14841619806991102961:=0
def tw16567394665802607390:=0
def tw12481410845589607067:=0
def tw11401864830455665343:=0
def tw17083692784264896623:=0
def tw4589564650269411079:=0
def tw7689988899505656827:=0
def tw16556433036220161440:=0
def tw12930951937673418841:=0
def tw11457171525433069265:=0
def tw15959746708940831986:=0
def tw9223636233893668278:=0
def tw1593895260270967761:=0
def tw6742635297627483061:=0
def tw15313794035520050830:=0
def tw15464975922684998035:=0
def tw3515101236805174864:=0
def tw12023755543233720796:=0
def tw13661939146062992059:=0
def tw13070404689507222125:=0
def tw9375771555509118121:=0
def tw7509660961647162794:=0
def tw4529001009868298656:=0
def tw6564814880086279266:=0
def tw12493981081396335499:=0
def tw13292971230318900268:=0
def tw12566308651483479250:=0
def tw10715928100075420012:=0
def tw7259731100979948441:=0
def tw4967921221426547640:=0
def tw17753842128944589417:=0
def tw17892717668544859935:=0
def tw9257751997300293591:=0
def tw17916922518335409045:=0
def tw10414490623573238019:=0
def tw13691158917606987663:=0
def tw15385086399797527517:=0
def tw1335705067494869713:=0
def tw13944080643608143327:=0
def tw331510132878136083:=0
def tw6969667804919402928:=0
def tw6013051393753857843:=0
def tw8868531049782204722:=0
def tw13389312700939749562:=0
def tw14112329752006292941:=0
def tw6399184852886485808:=0
def tw9930359644289518102:=0
def tw14072296839312438562:=0
def tw15197989101086259830:=0
def tw8872990223970496703:=0
def tw12505404257958279916:=0
def tw4960446658330800846:=0
def tw5757399850235291614:=0
def tw10297361697923379451:=0
def tw2567613147728508225:=0
def tw13272320058974158685:=0
def tw7532538749275783166:=0
def tw3822783180570394600:=0
def tw1960367597767939945:=0
def tw6557315327937138832:=0
def tw16773157268994905037:=0
def tw16002684000809822710:=0
def tw16076660859052954232:=0
def tw8359398275741678160:=0
def tw5920287216770822767:=0
def tw4564345465951656452:=0
def tw17165009819340115247:=0
def tw16452589705029554814:=0
def tw7461610392954906969:=0
def tw7629218090904912670:=0
def tw16791355955675057873:=0
def tw12904346147732940184:=0
def tw3828807434625345141:=0
def tw912386210183779119:=0
def tw925204571631834806:=0
def tw14734625541524548755:=0
def tw606840471968356731:=0
def tw14144183340220355580:=0
def tw5458076925446302422:=0
def tw9187027347541506314:=0
def tw1745350030981705740:=0
def tw14958747071079444502:=0
def tw13055747778817827307:=0
def tw8611536156237383040:=0
def tw9169021414125274574:=0
def tw7668605714095375203:=0
def tw6465119211689097737:=0
def tw13917871449282200408:=0
def tw6292885543475097571:=0
def tw16248781409880218889:=0
def tw3615722111659986933:=0
def tw2555967910038652179:=0
def tw507054577699080445:=0
def tw10722902775694448330:=0
def tw17067712339454867287:=0
def tw6309057509303786680:=0
def tw16351460132623053824:=0
def tw3370095903525358856:=0
def tw7302075386426756230:=0
def tw10947759378850439370:=0
def tw9475255101945868899:=0
def tw11772883744280520965:=0
def tw18024496174813093983:=0
def tw13228200004364811211:=0
def tw13981346049547880271:=0
def tw16032196064134058845:=0
def tw1131744491356402289:=0
def tw16114783146850456888:=0
def tw1385327513471064344:=0
def tw12836468353621134478:=0
def tw10826195531705737720:=0
def tw8289449170095851095:=0
def tw4676271322021043255:=0
def tw10358178723091732583:=0
def tw14301209290635616085:=0
def tw9523464621836214779:=0
def tw4934945326249540418:=0
def tw9356437478708308614:=0
def tw18333635635938413317:=0
def tw10587373317331451876:=0
def tw6285831020285495934:=0
def tw13678306695190744888:=0
def tw513598533177932348:=0
def tw17702704613261934363:=0
def tw7240096486858491784:=0
def tw18298593051858378248:=0
def tw9138748816872517157:=0
def tw132622396444193640:=0
def tw713546364859101430:=0
def tw4126733217184482726:=0
def tw14370842429353242744:=0
def tw10225153863355871353:=0
def tw5341115271886750080:=0
def tw9913405584787741817:=0
def tw16884119106469388038:=0
def tw13059640069920359534:=0
def tw15106164609131085968:=0
def tw16180055469654935752:=0
def tw206169772398833570:=0
def tw9554304939022194768:=0
def tw985235410027456622:=0
def tw15803972351720578629:=0
def tw5225009781704049667:=0
def tw6347554339845447311:=0
def tw14511179441651362895:=0
def tw13142099678480519082:=0
def tw18030435002701518022:=0
def tw16540656316830874595:=0
def tw930951172522837635:=0
def tw1469939362267787788:=0
def tw8536255258102599670:=0
def tw10878789612235068796:=0
def tw9301484646225730795:=0
def tw5191227110199407144:=0
def tw4572028820033507135:=0
def tw14204164298291140731:=0
def tw7286480075822056650:=0
def tw15290121859959444030:=0
def tw1360494626423396597:=0
def tw2151003153190778052:=0
def tw1584365454247827415:=0
def tw6819795564506112769:=0
def tw9731391579675135417:=0
def tw4920636634937627460:=0
def tw9168482590455889831:=0
def tw12685621931606272243:=0
def tw11616913719058686052:=0
def tw14871608572139707606:=0
def tw12730866792493243020:=0
def tw526987657474269295:=0
def tw2739753352029844960:=0
def tw240784787731445805:=0
def tw5549385115592986693:=0
def tw3375425121583747470:=0
def tw13626146399049643039:=0
def tw2797843208551869901:=0
def tw15643927825662715261:=0
def tw9714512391016018658:=0
def tw2868123666330240185:=0
def tw8875261479827274156:=0
def tw676616884457913216:=0
def tw2158103824437456144:=0
def tw9476515778814434089:=0
def tw6107145711024903377:=0
def tw4583356376007466105:=0
def tw17070821234464581652:=0
def tw3247417389424571018:=0
def tw127394267405539450:=0
def tw13336019890212327711:=0
def tw14200960543587949365:=0
def tw4657894817172561829:=0
def tw15415519477117914981:=0
def tw15634144796960097822:=0
def tw9275454759518011548:=0
def tw13870311652718705867:=0
def tw15950233240851426248:=0
def tw8481014302734742266:=0
def tw11691566825774560832:=0
def tw17109501024631045694:=0
def tw15471499698070525045:=0
def tw13843831738884405825:=0
def tw12743199965418337043:=0
def tw10933580281782613800:=0
def tw14101317389795624005:=0
def tw17953360469868155110:=0
def tw3381356124542004629:=0
def tw3302515657237015550:=0
def tw13327461276835517347:=0
def tw8340169393100646585:=0
def tw13824089952489092857:=0
def tw11471605176122961912:=0
def tw6575046027276585691:=0
def tw8501253954785849125:=0
def tw7080627212808262949:=0
def tw1884451967616828376:=0
def tw4600061907102903990:=0
def tw10210196700750540900:=0
def tw6265469144043264243:=0
def tw17263363262711722758:=0
def tw9104204782772958988:=0
def tw15785131421398833239:=0
def tw513300004271815463:=0
def tw10969687059269208716:=0
def tw8115066351144861118:=0
def tw4107923711527949354:=0
def tw6941501703715482234:=0
def tw1900702022955463344:=0
def tw11282568101495901997:=0
def tw12752869323126267313:=0
def tw17752011897044650255:=0
def tw5638819536920780757:=0
def tw11607963442739396982:=0
def tw17266869000767001387:=0
def tw17073532910354575180:=0
def tw12441644042228592084:=0
def tw15389701105737114167:=0
def tw8862744745807294001:=0
def tw8200219228283183647:=0
def tw16943304327103332991:=0
def tw17041062255559988501:=0
def tw2144755020050202595:=0
end PySem.W.Fast
open PySem PySem.W PyProof.Rows
set_option maxRecDepth 100000 in
set_option maxHeartbeats 0 in
theorem PySem.Challenge.cw_parentlines_k46_whole_onward_meets_each_holds : PySem.Challenge.rw_parentlines_k46_whole_onward_meets_each.Holds := by
 w_on;o_law;k_head;(case hw=>w_witness2)
 k_fill
 refine gu.walk (l:=PySem.Challenge.rw_parentlines_k46_whole_onward_meets_each) rfl rfl (fun w h Y=>PySem.W.kIn_of Y) ?F
 case F =>
  intro w mg fa h KX G sf;refine' gu.all_mk KX G sf ?d ?z ?Kt ?aM ?aD ?Ku ?r6 ?Kv ?Kw ?Kx ?Ky ?aC ?Kz ?KA ?KC ?KG ?KH ?KI ?aR ?KJ ?KL ?KN ?KO ?KP ?KQ ?GY ?GZ ?Ha ?Hb ?Hc ?Hd ?He ?Hf ?Hg ?BA ?Hh ?Hi ?Hj ?Hk ?BB ?Hm ?Hn ?Ho ?Hq ?Hr ?Hs ?Ht ?Hu ?Hv ?BC ?Hw ?Hx ?Hy ?Hz ?BD ?HA ?HB ?HC ?HD ?BE ?HE ?HF ?HG ?HH ?BF ?HI ?HJ ?HK ?HL ?BG ?HM ?HN ?HP ?HQ ?BH ?HR ?HU ?HV ?HW ?HX ?HY ?HZ ?Ia ?Ib ?BI ?Ic ?Ie ?Ig ?Ih ?BJ ?RE ?Ii ?Ij ?Ik ?Il ?Im ?Io ?Ip ?Iq ?BK ?Ir ?EL ?D0 ?Fb ?FF ?EM ?Fc ?FG ?Fd ?EN ?EO ?En ?ER ?Fe ?ES ?Eo ?hx ?KR
  (case d=>(repeat (refine' L2.ack ?a ?l ?c ?k ?_;(case a=>k_is);(case l=>k_is);(case c=>k_is);(case k=>k_is)));exact trivial)
  (case z=>(repeat' first|exact trivial|refine And.intro ?_ ?_) <;> k_is)
  (case Kt=>k_is)
  (case aM=>k_is)
  (case aD=>k_is)
  (case Ku=>k_is)
  (case r6=>k_is)
  (case Kv=>k_is)
  (case Kw=>k_is)
  (case Kx=>k_is)
  (case Ky=>k_is)
  (case aC=>k_is)
  (case Kz=>k_is)
  (case KA=>k_is)
  (case KC=>k_is)
  (case KG=>k_is)
  (case KH=>k_is)
  (case KI=>k_is)
  (case aR=>k_is)
  (case KJ=>k_is)
  (case KL=>k_is)
  (case KN=>k_is)
  (case KO=>k_is)
  (case KP=>k_is)
  (case KQ=>k_is)
  (case GY=>k_is)
  (case GZ=>k_is)
  (case Ha=>k_is)
  (case Hb=>k_is)
  (case Hc=>k_is)
  (case Hd=>k_is)
  (case He=>k_is)
  (case Hf=>k_is)
  (case Hg=>k_is)
  (case BA=>k_is)
  (case Hh=>k_is)
  (case Hi=>k_is)
  (case Hj=>k_is)
  (case Hk=>k_is)
  (case BB=>k_is)
  (case Hm=>k_is)
  (case Hn=>k_is)
  (case Ho=>k_is)
  (case Hq=>k_is)
  (case Hr=>k_is)
  (case Hs=>k_is)
  (case Ht=>k_is)
  (case Hu=>k_is)
  (case Hv=>k_is)
  (case BC=>k_is)
  (case Hw=>k_is)
  (case Hx=>k_is)
  (case Hy=>k_is)
  (case Hz=>k_is)
  (case BD=>k_is)
  (case HA=>k_is)
  (case HB=>k_is)
  (case HC=>k_is)
  (case HD=>k_is)
  (case BE=>k_is)
  (case HE=>k_is)
  (case HF=>k_is)
  (case HG=>k_is)
  (case HH=>k_is)
  (case BF=>k_is)
  (case HI=>k_is)
  (case HJ=>k_is)
  (case HK=>k_is)
  (case HL=>k_is)
  (case BG=>k_is)
  (case HM=>k_is)
  (case HN=>k_is)
  (case HP=>k_is)
  (case HQ=>k_is)
  (case BH=>k_is)
  (case HR=>k_is)
  (case HU=>k_is)
  (case HV=>k_is)
  (case HW=>k_is)
  (case HX=>k_is)
  (case HY=>k_is)
  (case HZ=>k_is)
  (case Ia=>k_is)
  (case Ib=>k_is)
  (case BI=>k_is)
  (case Ic=>k_is)
  (case Ie=>k_is)
  (case Ig=>k_is)
  (case Ih=>k_is)
  (case BJ=>k_is)
  (case RE=>k_is)
  (case Ii=>k_is)
  (case Ij=>k_is)
  (case Ik=>k_is)
  (case Il=>k_is)
  (case Io=>k_is)
  (case Ip=>k_is)
  (case Iq=>k_is)
  (case BK=>k_is)
  (case Ir=>k_is)
  (case EL=>k_is)
  (case D0=>k_is)
  (case Fb=>k_is)
  (case FF=>k_is)
  (case EM=>k_is)
  (case Fc=>k_is)
  (case FG=>k_is)
  (case Fd=>k_is)
  (case EN=>k_is)
  (case EO=>k_is)
  (case En=>k_is)
  (case ER=>k_is)
  (case Fe=>k_is)
  (case ES=>k_is)
  (case Eo=>k_is)
  (case KR=>k_is)
  (case Im=>kernel_rfl)
  (case hx=>kernel_rfl)
